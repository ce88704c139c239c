"""text: a part's text spelled out, too long ones, and circles."""

import unittest

from tests.helper import TOP, ask, chain, define, ends, last, part, rename, spell, text


class Texts(unittest.TestCase):
    def test_the_whole_has_none(self):
        self.assertEqual(last(text(0, 0)), [0])
        self.assertEqual(last(part(0, [1, 2]), define(0, 1, 0, 0, [1]), text(0, 0)), [0])

    def test_words_without_definition_stand(self):
        self.assertEqual(last(part(0, [3, 1, 3, 99999]), text(1, 0)), [4, 3, 1, 3, 99999])

    def test_part_without_words(self):
        self.assertEqual(last(part(0), text(1, 0)), [0])

    def test_of_that_part_and_no_other(self):
        told = (part(0, [1]), part(1, [2, 2]), part(1, [3]))
        self.assertEqual(ask(*told, text(1, 0), text(2, 0), text(3, 0), text(0, 0))[3:],
                         [[1, 1], [2, 2, 2], [1, 3], [0]])

    def test_bodies_in_their_words_place(self):
        told = (part(0, [9, 1, 8, 3]), define(0, 1, 0, 0, [2, 3]), define(0, 3, 0, 0, [4, 5, 4]))
        self.assertEqual(last(*told, text(1, 0)), [9, 9, 2, 4, 5, 4, 8, 4, 5, 4])

    def test_at_that_part(self):
        told = (part(0, [1, 2]), part(1, [1, 2]), define(0, 1, 0, 0, [2]), define(1, 2, 0, 0, [30]),
                define(2, 2, 0, 0, [40, 41]))
        self.assertEqual(last(*told, text(1, 0)), [2, 2, 30])
        self.assertEqual(last(*told, text(2, 0)), [3, 2, 40, 41])

    def test_on_that_day(self):
        told = (part(0, [1]), define(0, 1, 5, 8, [3, 3]), define(0, 1, 7, 0, [4]), ends(1, 10))
        expected = {0: [1, 1], 4: [1, 1], 5: [2, 3, 3], 6: [2, 3, 3], 7: [1, 4], 9: [1, 4], 10: [1, 1], 99999: [1, 1],
                    TOP: [1, 1]}
        for day, answer in expected.items():
            self.assertEqual(last(*told, text(1, day)), answer)

    def test_of_a_renamed_word(self):
        told = (part(0, [1, 2]), define(0, 1, 0, 0, [3, 2]))
        self.assertEqual(last(*told, rename(1, 9), text(1, 0)), [3, 3, 2, 2])
        self.assertEqual(last(*told, rename(2, 9), text(1, 0)), [3, 3, 9, 9])

    def test_like_spell(self):
        words = [1, 2, 3, 1, 4]
        told = (part(0), part(1, words), define(1, 1, 0, 0, [2, 5]), define(0, 2, 0, 0, [6]),
                define(2, 4, 3, 0, [2, 2]))
        for day in range(5):
            self.assertEqual(last(*told, text(2, day)), last(*told, spell(2, day, words)))


class Long(unittest.TestCase):
    def test_exactly_1000_words_and_one_more(self):
        told = (define(0, 1, 0, 0, [2] * 10), define(0, 2, 0, 0, [3] * 5), define(0, 6, 0, 0, [2] * 9 + [3] * 6))
        self.assertEqual(last(*told, part(0, [1] * 20), text(1, 0)), [1000] + [3] * 1000)
        self.assertEqual(last(*told, part(0, [1] * 19 + [6]), text(1, 0)), [-5])
        self.assertEqual(last(*told, part(0, [6] + [1] * 19), text(1, 0)), [-5])

    def test_far_more_than_1000_words(self):
        self.assertEqual(last(*chain(20, 20), part(0, [1] * 20), text(1, 0)), [-5])

    def test_on_some_days_alone(self):
        told = (part(0, [1] * 20), define(0, 1, 0, 0, [2] * 20), define(0, 2, 5, 8, [3] * 20))
        self.assertEqual([last(*told, text(1, day))[0] for day in (4, 5, 7, 8)], [400, -5, -5, 400])


class Refusals(unittest.TestCase):
    def test_part_that_is_not_there(self):
        self.assertEqual(ask(text(1, 0), text(TOP, TOP), part(0, [4]), text(1, 0), text(2, 0)),
                         [[-2], [-2], [1], [1, 4], [-2]])

    def test_all_days(self):
        for day in (0, 99999, 100000, TOP):
            self.assertEqual(last(part(0, [4]), text(1, day)), [1, 4])

    def test_word_that_leads_into_a_circle(self):
        told = (part(0, [5, 1]), define(0, 1, 0, 0, [2]), define(0, 2, 3, 6, [3]), define(0, 3, 0, 0, [4, 2]))
        self.assertEqual([last(*told, text(1, day)) for day in (2, 3, 5, 6)], [[2, 5, 2], [-7], [-7], [2, 5, 2]])

    def test_circle_that_it_does_not_lead_into(self):
        told = (part(0, [5]), part(0, [1]), define(2, 5, 0, 0, [1]), define(2, 1, 0, 0, [5]))
        self.assertEqual(ask(*told, text(1, 0), text(2, 0))[4:], [[1, 5], [-7]])

    def test_circle_counts_before_too_many_words(self):
        told = chain(4, 20) + [define(0, 30, 0, 0, [30])]
        self.assertEqual(last(*told, part(0, [1, 30]), text(1, 0)), [-7])
        self.assertEqual(last(*told, part(0, [30, 1]), text(1, 0)), [-7])
        self.assertEqual(last(*told, part(0, [1]), text(1, 0)), [-5])
        told = chain(4, 20) + [define(0, 30, 0, 0, [1, 31]), define(0, 31, 0, 0, [30])]
        self.assertEqual(last(*told, part(0, [30]), text(1, 0)), [-7])

    def test_part_counts_before_all_else(self):
        told = chain(4, 20) + [define(0, 30, 0, 0, [30]), part(0, [1]), part(0, [30])]
        self.assertEqual(ask(*told, text(1, 0), text(2, 0), text(3, 0))[-3:], [[-5], [-7], [-2]])


if __name__ == "__main__":
    unittest.main()
