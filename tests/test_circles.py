"""circles: which definitions in force lead into a circle."""

import unittest

from tests.helper import TOP, ask, chain, circles, define, ends, last, part, rename


class Circles(unittest.TestCase):
    def test_none(self):
        self.assertEqual(last(circles(0)), [0])
        self.assertEqual(last(define(0, 1, 0, 0, [2]), define(0, 2, 0, 0, [3, 4]), circles(0)), [0])

    def test_own_word_in_the_body(self):
        self.assertEqual(last(define(0, 1, 0, 0, [1]), circles(0)), [1, 0])
        self.assertEqual(last(define(0, 5, 0, 0, [6]), define(0, 1, 0, 0, [2, 1, 3]), circles(0)), [1, 1])

    def test_own_word_in_the_body_at_a_part(self):
        self.assertEqual(last(part(0), define(1, 1, 0, 0, [2, 1]), circles(0)), [1, 0])
        self.assertEqual(last(part(0), define(1, 1, 0, 0, [1]), define(0, 1, 0, 0, [2]), circles(0)), [1, 0])

    def test_found_at_a_part_above(self):
        told = (part(0), part(1), define(2, 1, 0, 0, [3]), define(0, 3, 0, 0, [4, 3]))
        self.assertEqual(last(*told, circles(0)), [2, 0, 1])

    def test_own_word_that_means_another_one_there(self):
        # The body of the one above knows nothing of the one below.
        self.assertEqual(last(part(0), define(1, 1, 0, 0, [2]), define(0, 2, 0, 0, [1]), circles(0)), [0])
        self.assertEqual(last(part(0), define(1, 1, 0, 0, [2]), define(0, 2, 0, 0, [1]), define(0, 1, 0, 0, [2]),
                              circles(0)), [3, 0, 1, 2])

    def test_through_several(self):
        told = (define(0, 1, 0, 0, [9, 2]), define(0, 7, 0, 0, [8]), define(0, 2, 0, 0, [3]),
                define(0, 3, 0, 0, [8, 1, 8]))
        self.assertEqual(last(*told, circles(0)), [3, 0, 2, 3])

    def test_through_several_parts(self):
        told = (part(0), part(1), define(2, 1, 0, 0, [2]), define(1, 2, 0, 0, [3]), define(0, 3, 0, 0, [4]),
                define(0, 4, 0, 0, [3]), define(1, 4, 0, 0, [5]))
        self.assertEqual(last(*told, circles(0)), [4, 0, 1, 2, 3])

    def test_led_into_without_being_in_it(self):
        told = (define(0, 5, 0, 0, [7, 6]), define(0, 6, 0, 0, [1]), define(0, 1, 0, 0, [2]),
                define(0, 2, 0, 0, [1, 7]), define(0, 7, 0, 0, [8]))
        self.assertEqual(last(*told, circles(0)), [4, 0, 1, 2, 3])

    def test_two_circles(self):
        told = (define(0, 1, 0, 0, [2]), define(0, 3, 0, 0, [4]), define(0, 2, 0, 0, [1]), define(0, 4, 0, 0, [3]),
                define(0, 5, 0, 0, [6]))
        self.assertEqual(last(*told, circles(0)), [4, 0, 1, 2, 3])

    def test_two_ways_to_one_are_no_circle(self):
        told = (define(0, 1, 0, 0, [2, 3]), define(0, 2, 0, 0, [4]), define(0, 3, 0, 0, [4, 4]),
                define(0, 4, 0, 0, [5]))
        self.assertEqual(last(*told, circles(0)), [0])

    def test_longest_circle_and_longest_chain(self):
        told = [define(0, word, 0, 0, [word % 20 + 1]) for word in range(1, 21)]
        self.assertEqual(last(*told, circles(0)), [20] + list(range(20)))
        self.assertEqual(last(*chain(20, 1), circles(0)), [0])

    def test_too_long_is_no_circle(self):
        self.assertEqual(last(*chain(20, 20), circles(0)), [0])
        self.assertEqual(last(*chain(19, 20), define(0, 30, 0, 0, [1, 30]), circles(0)), [1, 19])

    def test_texts_do_not_matter(self):
        told = (define(0, 1, 0, 0, [1]), define(0, 2, 0, 0, [3]))
        self.assertEqual(last(*told, part(0, [2]), circles(0)), [1, 0])
        self.assertEqual(last(*told, part(0, [1, 2]), circles(0)), [1, 0])


class Days(unittest.TestCase):
    def test_there_on_some_days_alone(self):
        told = (define(0, 1, 0, 0, [2]), define(0, 2, 5, 8, [1]))
        expected = {0: [0], 4: [0], 5: [2, 0, 1], 7: [2, 0, 1], 8: [0], TOP: [0]}
        for day, answer in expected.items():
            self.assertEqual(last(*told, circles(day)), answer)
        self.assertEqual(ask(*told, ends(1, 7), circles(6), circles(7))[3:], [[2, 0, 1], [0]])

    def test_without_end(self):
        told = (define(0, 1, 5, 0, [1]),)
        for day in (5, 99999, 100000, TOP):
            self.assertEqual(last(*told, circles(day)), [1, 0])
        self.assertEqual(last(*told, circles(4)), [0])

    def test_not_in_force_is_not_told(self):
        told = (define(0, 1, 0, 5, [1]), define(0, 2, 3, 0, [2]), define(0, 3, 0, 0, [1, 2]))
        self.assertEqual(last(*told, circles(0)), [2, 0, 2])
        self.assertEqual(last(*told, circles(3)), [3, 0, 1, 2])
        self.assertEqual(last(*told, circles(5)), [2, 1, 2])

    def test_ended_by_a_later_definition(self):
        told = (define(0, 1, 0, 0, [2]), define(0, 2, 0, 0, [1]), define(0, 2, 5, 0, [3]))
        self.assertEqual(last(*told, circles(4)), [2, 0, 1])
        self.assertEqual(last(*told, circles(5)), [0])


class Hidden(unittest.TestCase):
    def test_hidden_one_leads_by_what_its_words_mean(self):
        # On day 5 the word of the first one's body has the second one, which leads nowhere.
        self.assertEqual(last(define(0, 1, 0, 0, [1]), define(0, 1, 5, 0, [3]), circles(5)), [0])

    def test_hidden_one_that_leads_into_a_circle_is_told(self):
        self.assertEqual(last(define(0, 1, 0, 0, [1]), define(0, 1, 5, 0, [1]), circles(5)), [2, 0, 1])
        self.assertEqual(last(define(0, 1, 0, 0, [2]), define(0, 1, 5, 0, [3]), define(0, 2, 0, 0, [2]), circles(5)),
                         [2, 0, 2])

    def test_hidden_one_that_does_not_is_not_told(self):
        self.assertEqual(last(define(0, 1, 0, 0, [3]), define(0, 1, 5, 0, [1]), circles(5)), [1, 1])


class Unchanged(unittest.TestCase):
    def test_asked_again(self):
        told = (define(0, 1, 0, 0, [2]), define(0, 2, 0, 0, [1]), define(0, 3, 0, 0, [4]))
        self.assertEqual(ask(*told, circles(0), circles(0), rename(2, 9), circles(0))[3:],
                         [[2, 0, 1], [2, 0, 1], [0], [2, 0, 1]])


if __name__ == "__main__":
    unittest.main()
