"""spell: words spelled out, too long ones, and circles."""

import time
import unittest

from tests.helper import TOP, ask, chain, define, ends, last, means, part, rename, spell


class Spelled(unittest.TestCase):
    def test_words_without_definition_stand(self):
        self.assertEqual(last(spell(0, 0, [3, 1, 3, 99999])), [4, 3, 1, 3, 99999])

    def test_no_words(self):
        self.assertEqual(last(spell(0, 0, [])), [0])
        self.assertEqual(last(define(0, 1, 0, 0, [1]), spell(0, 0, [])), [0])

    def test_bodies_in_their_words_place(self):
        told = (define(0, 1, 0, 0, [2, 3]), define(0, 3, 0, 0, [4, 5, 4]))
        self.assertEqual(last(*told, spell(0, 0, [9, 1, 8, 3])), [9, 9, 2, 4, 5, 4, 8, 4, 5, 4])

    def test_definitions_told_in_either_order(self):
        told = (define(0, 3, 0, 0, [4, 5]), define(0, 1, 0, 0, [3, 3]))
        self.assertEqual(last(*told, spell(0, 0, [1])), [4, 4, 5, 4, 5])

    def test_on_that_day(self):
        told = (define(0, 1, 0, 0, [2]), define(0, 2, 5, 8, [3]), define(0, 2, 7, 0, [4]), ends(2, 10))
        expected = {0: 2, 4: 2, 5: 3, 6: 3, 7: 4, 9: 4, 10: 2, 100000: 2, TOP: 2}
        for day, word in expected.items():
            self.assertEqual(last(*told, spell(0, day, [1])), [1, word])

    def test_at_the_part_for_which_the_definition_is(self):
        told = (part(0), define(0, 1, 0, 0, [2]), define(1, 2, 0, 0, [30]), define(0, 2, 0, 0, [40]))
        self.assertEqual(last(*told, spell(1, 0, [1, 2])), [2, 40, 30])
        self.assertEqual(last(*told, spell(0, 0, [1, 2])), [2, 40, 40])

    def test_body_word_defined_only_below_stands(self):
        told = (part(0), define(0, 1, 0, 0, [2]), define(1, 2, 0, 0, [30]))
        self.assertEqual(last(*told, spell(1, 0, [1, 2])), [2, 2, 30])

    def test_part_between(self):
        told = (part(0), part(1), define(1, 1, 0, 0, [2, 3]), define(2, 2, 0, 0, [20]), define(1, 2, 0, 0, [10]),
                define(0, 3, 0, 0, [2, 5]))
        self.assertEqual(last(*told, spell(2, 0, [1, 2])), [4, 10, 2, 5, 20])

    def test_same_word_through_two_parts_is_no_circle(self):
        told = (part(0), define(1, 1, 0, 0, [2]), define(0, 2, 0, 0, [1]))
        self.assertEqual(last(*told, spell(1, 0, [1])), [1, 1])
        self.assertEqual(last(*told, spell(0, 0, [2])), [1, 1])

    def test_changes_nothing(self):
        told = (define(0, 1, 0, 0, [2, 2]), define(0, 2, 0, 0, [3]), spell(0, 0, [1, 9]), spell(0, 0, [1, 9]),
                means(0, 1, 0), rename(9, 8))
        self.assertEqual(ask(*told)[2:], [[3, 3, 3, 9], [3, 3, 3, 9], [1, 0, 0, 2, 2], [-6]])


class Long(unittest.TestCase):
    def test_exactly_1000_words(self):
        told = (define(0, 1, 0, 0, [2] * 10), define(0, 2, 0, 0, [3] * 5))
        self.assertEqual(last(*told, spell(0, 0, [1] * 20)), [1000] + [3] * 1000)

    def test_1000_in_one_body(self):
        told = (define(0, 1, 0, 0, [2] * 10), define(0, 2, 0, 0, [3] * 10), define(0, 3, 0, 0, [4] * 10))
        self.assertEqual(last(*told, spell(0, 0, [1])), [1000] + [4] * 1000)
        self.assertEqual(last(*told, spell(0, 0, [1, 5])), [-5])
        self.assertEqual(last(*told, spell(0, 0, [5, 1])), [-5])
        self.assertEqual(last(*told, spell(0, 0, [1, 1])), [-5])

    def test_1001_words(self):
        told = (define(0, 1, 0, 0, [2] * 10), define(0, 2, 0, 0, [3] * 5), define(0, 6, 0, 0, [2] * 9 + [3] * 6))
        self.assertEqual(last(*told, spell(0, 0, [1] * 19 + [6])), [-5])
        self.assertEqual(last(*told, spell(0, 0, [6] + [1] * 19)), [-5])
        self.assertEqual(last(*told, spell(0, 0, [1] * 19)), [950] + [3] * 950)

    def test_999_words(self):
        told = (define(0, 1, 0, 0, [2] * 10), define(0, 2, 0, 0, [3] * 5), define(0, 6, 0, 0, [2] * 9 + [3] * 4))
        self.assertEqual(last(*told, spell(0, 0, [1] * 19 + [6])), [999] + [3] * 999)

    def test_longest_chain(self):
        self.assertEqual(last(*chain(20, 1), spell(0, 0, [1, 7])), [2, 21, 21])
        self.assertEqual(last(*reversed(chain(20, 1)), spell(0, 0, [1, 7])), [2, 21, 21])

    def test_too_long_leaves_others_be(self):
        told = chain(19, 20) + [define(0, 30, 0, 0, [31])]
        self.assertEqual(last(*told, spell(0, 0, [30, 18])), [401, 31] + [20] * 400)
        self.assertEqual(last(*told, spell(0, 0, [30, 17])), [-5])

    def test_answered_soon(self):
        began = time.monotonic()
        told = chain(20, 20) + [spell(0, 0, [1] * 20) for number in range(40)]
        self.assertEqual(ask(*told)[20:], [[-5]] * 40)
        told = chain(20, 20)[::-1] + [spell(0, 0, [1] * 20) for number in range(40)]
        self.assertEqual(ask(*told)[20:], [[-5]] * 40)
        told = [define(0, word, 0, 0, [word % 20 + 1] * 20) for word in range(1, 21)]
        told += [spell(0, 0, [1] * 20) for number in range(40)]
        self.assertEqual(ask(*told)[20:], [[-7]] * 40)
        self.assertLess(time.monotonic() - began, 20)


class Circles(unittest.TestCase):
    def test_word_defined_by_itself(self):
        self.assertEqual(last(define(0, 1, 0, 0, [1]), spell(0, 0, [1])), [-7])
        self.assertEqual(last(define(0, 1, 0, 0, [2, 1]), spell(0, 0, [5, 1])), [-7])

    def test_through_others(self):
        told = (define(0, 1, 0, 0, [9, 2]), define(0, 2, 0, 0, [3]), define(0, 3, 0, 0, [8, 1, 8]))
        for word in (1, 2, 3):
            self.assertEqual(last(*told, spell(0, 0, [word])), [-7])
        self.assertEqual(last(*told, spell(0, 0, [8, 9])), [2, 8, 9])

    def test_leading_into_a_circle_without_being_in_it(self):
        told = (define(0, 5, 0, 0, [7, 6]), define(0, 6, 0, 0, [1]), define(0, 1, 0, 0, [2]), define(0, 2, 0, 0, [1]))
        self.assertEqual(last(*told, spell(0, 0, [5])), [-7])
        self.assertEqual(last(*told, spell(0, 0, [6])), [-7])
        self.assertEqual(last(*told, spell(0, 0, [7])), [1, 7])

    def test_others_beside_a_circle_are_spelled(self):
        told = (define(0, 1, 0, 0, [1, 4]), define(0, 4, 0, 0, [5, 5]))
        self.assertEqual(last(*told, spell(0, 0, [4])), [2, 5, 5])
        self.assertEqual(last(*told, spell(0, 0, [4, 1])), [-7])

    def test_on_some_days_alone(self):
        told = (define(0, 1, 0, 0, [2]), define(0, 2, 5, 8, [1]))
        self.assertEqual([last(*told, spell(0, day, [1])) for day in (4, 5, 7, 8)], [[1, 2], [-7], [-7], [1, 2]])
        self.assertEqual(last(*told, ends(1, 7), spell(0, 7, [1])), [1, 2])

    def test_hidden_by_a_later_definition(self):
        told = (define(0, 1, 0, 0, [1]), define(0, 1, 5, 0, [3]))
        self.assertEqual(last(*told, spell(0, 4, [1])), [-7])
        self.assertEqual(last(*told, spell(0, 5, [1])), [1, 3])

    def test_hidden_definition_led_to_by_its_own_word(self):
        told = (define(0, 1, 0, 0, [3]), define(0, 1, 5, 0, [1]))
        self.assertEqual(last(*told, spell(0, 5, [1])), [-7])

    def test_at_one_part_alone(self):
        told = (part(0), define(0, 1, 0, 0, [2]), define(1, 1, 0, 0, [1]))
        self.assertEqual(last(*told, spell(0, 0, [1])), [1, 2])
        self.assertEqual(last(*told, spell(1, 0, [1])), [-7])

    def test_longest_circle(self):
        told = [define(0, word, 0, 0, [word % 20 + 1]) for word in range(1, 21)]
        self.assertEqual(last(*told, spell(0, 0, [13])), [-7])


class Refusals(unittest.TestCase):
    def test_part_that_is_not_there(self):
        self.assertEqual(ask(spell(1, 0, []), spell(TOP, 0, [1]), part(0), spell(1, 0, [1]), spell(2, 0, [1])),
                         [[-2], [-2], [1], [1, 1], [-2]])

    def test_20_words_and_21(self):
        self.assertEqual(last(spell(0, 0, [3] * 20)), [20] + [3] * 20)
        self.assertEqual(last(spell(0, 0, [3] * 21)), [-1])
        self.assertEqual(last(spell(0, 0, [3] * 30)), [-1])

    def test_words_from_1_to_99999(self):
        self.assertEqual(last(spell(0, 0, [1, 99999])), [2, 1, 99999])
        for word in (0, 100000, TOP):
            self.assertEqual(last(spell(0, 0, [word])), [-1])
            self.assertEqual(last(spell(0, 0, [1, word])), [-1])

    def test_all_days(self):
        for day in (0, 99999, 100000, TOP):
            self.assertEqual(last(spell(0, day, [4])), [1, 4])

    def test_first_refusal_told_counts(self):
        told = chain(4, 20) + [define(0, 30, 0, 0, [30])]
        self.assertEqual(last(*told, spell(1, 0, [0])), [-2])
        self.assertEqual(last(*told, spell(1, 0, [30])), [-2])
        self.assertEqual(last(*told, spell(1, 0, [1])), [-2])
        self.assertEqual(last(*told, spell(0, 0, [30, 0])), [-1])
        self.assertEqual(last(*told, spell(0, 0, [1, 0])), [-1])
        self.assertEqual(last(*told, spell(0, 0, [30] * 21)), [-1])
        self.assertEqual(last(*told, spell(0, 0, [1, 30])), [-7])
        self.assertEqual(last(*told, spell(0, 0, [30, 1])), [-7])
        self.assertEqual(last(*told, spell(0, 0, [1])), [-5])

    def test_circle_behind_a_too_long_body(self):
        told = chain(4, 20) + [define(0, 30, 0, 0, [1, 31]), define(0, 31, 0, 0, [30])]
        self.assertEqual(last(*told, spell(0, 0, [30])), [-7])
        self.assertEqual(last(*told, spell(0, 0, [1, 31])), [-7])


if __name__ == "__main__":
    unittest.main()
