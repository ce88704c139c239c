"""hidden: which definitions in force aren't their word's definition at their own part."""

import unittest

from tests.helper import TOP, ask, define, ends, hidden, last, means, part, rename


class Hidden(unittest.TestCase):
    def test_none(self):
        self.assertEqual(last(hidden(0)), [0])
        self.assertEqual(last(define(0, 1, 0, 0, [2]), define(0, 2, 3, 0, [1]), hidden(5)), [0])

    def test_by_one_that_came_into_force_later(self):
        told = (define(0, 1, 2, 0, [3]), define(0, 1, 5, 0, [4]))
        self.assertEqual([last(*told, hidden(day)) for day in (0, 2, 4, 5, TOP)], [[0], [0], [0], [1, 0], [1, 0]])
        told = (define(0, 1, 5, 0, [4]), define(0, 1, 2, 0, [3]))
        self.assertEqual([last(*told, hidden(day)) for day in (2, 4, 5, TOP)], [[0], [0], [1, 1], [1, 1]])

    def test_by_one_told_later_with_the_same_day(self):
        told = (define(0, 1, 2, 0, [3]), define(0, 1, 2, 9, [4]), define(0, 1, 2, 5, [3]))
        self.assertEqual([last(*told, hidden(day)) for day in (1, 2, 4, 5, 8, 9)],
                         [[0], [2, 0, 1], [2, 0, 1], [1, 0], [1, 0], [0]])

    def test_by_a_later_one_that_has_ended(self):
        told = (define(0, 1, 2, 0, [3]), define(0, 1, 5, 8, [4]))
        self.assertEqual([last(*told, hidden(day)) for day in (5, 7, 8)], [[1, 0], [1, 0], [0]])
        self.assertEqual(ask(*told, ends(1, 6), hidden(5), hidden(6))[3:], [[1, 0], [0]])

    def test_itself_not_in_force_any_more(self):
        told = (define(0, 1, 2, 7, [3]), define(0, 1, 5, 0, [4]))
        self.assertEqual([last(*told, hidden(day)) for day in (6, 7)], [[1, 0], [0]])

    def test_same_body_hides_too(self):
        self.assertEqual(last(define(0, 1, 0, 0, [3]), define(0, 1, 0, 0, [3]), hidden(0)), [1, 0])

    def test_not_by_that_for_another_part(self):
        told = (part(0), part(1), define(0, 1, 0, 0, [3]), define(1, 1, 5, 0, [4]), define(2, 1, 2, 0, [5]))
        self.assertEqual(last(*told, hidden(9)), [0])

    def test_not_by_that_of_another_word(self):
        told = (define(0, 1, 0, 0, [3]), define(0, 2, 5, 0, [3]), define(0, 3, 6, 0, [1]))
        self.assertEqual(last(*told, hidden(9)), [0])

    def test_at_several_parts(self):
        told = (part(0), define(1, 1, 0, 0, [3]), define(0, 1, 0, 0, [4]), define(1, 1, 1, 0, [5]),
                define(0, 2, 0, 0, [6]), define(0, 1, 1, 0, [7]))
        self.assertEqual(last(*told, hidden(0)), [0])
        self.assertEqual(last(*told, hidden(1)), [2, 0, 1])

    def test_all_but_one_of_twenty(self):
        told = [define(0, 1, 9, 0, [2])] + [define(0, 1, 3, 0, [2]) for number in range(19)]
        self.assertEqual(last(*told, hidden(9)), [19] + list(range(1, 20)))
        self.assertEqual(last(*told, hidden(8)), [18] + list(range(1, 19)))

    def test_on_days_behind_99999(self):
        told = (define(0, 1, 2, 0, [3]), define(0, 1, 99999, 0, [4]))
        self.assertEqual([last(*told, hidden(day)) for day in (99998, 99999, 100000, TOP)],
                         [[0], [1, 0], [1, 0], [1, 0]])

    def test_changes_nothing(self):
        told = (define(0, 1, 0, 0, [3]), define(0, 1, 0, 0, [4]))
        self.assertEqual(ask(*told, hidden(0), hidden(0), means(0, 1, 0), rename(1, 9), hidden(0))[2:],
                         [[1, 0], [1, 0], [1, 1, 0, 4], [0], [1, 0]])


if __name__ == "__main__":
    unittest.main()
