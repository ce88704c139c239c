"""changes: the days on which a text, spelled out, comes to be another."""

import unittest

from tests.helper import TOP, ask, chain, changes, define, ends, last, means, part, rename, spell


class Days(unittest.TestCase):
    def test_no_definitions(self):
        self.assertEqual(last(changes(0, [1, 2])), [0])
        self.assertEqual(last(part(0, [1]), changes(1, [1])), [0])

    def test_no_words(self):
        self.assertEqual(last(changes(0, [])), [0])
        self.assertEqual(last(define(0, 1, 3, 6, [2]), define(0, 2, 0, 0, [2]), changes(0, [])), [0])

    def test_words_without_definition(self):
        self.assertEqual(last(define(0, 1, 3, 6, [2]), changes(0, [2, 3])), [0])

    def test_comes_into_force_and_ends_to_be(self):
        self.assertEqual(last(define(0, 1, 3, 6, [2]), changes(0, [1])), [2, 3, 6])
        self.assertEqual(last(define(0, 1, 3, 0, [2]), changes(0, [1])), [1, 3])
        self.assertEqual(last(define(0, 1, 3, 4, [2]), changes(0, [5, 1])), [2, 3, 4])

    def test_ended_by_a_call(self):
        self.assertEqual(last(define(0, 1, 3, 6, [2]), ends(0, 9), changes(0, [1])), [2, 3, 9])
        self.assertEqual(last(define(0, 1, 3, 0, [2]), ends(0, 4), changes(0, [1])), [2, 3, 4])

    def test_in_force_from_day_0_on(self):
        self.assertEqual(last(define(0, 1, 0, 0, [2]), changes(0, [1])), [0])
        self.assertEqual(last(define(0, 1, 0, 4, [2]), changes(0, [1])), [1, 4])
        self.assertEqual(last(define(0, 1, 0, 1, [2]), changes(0, [1])), [1, 1])

    def test_day_1(self):
        self.assertEqual(last(define(0, 1, 1, 0, [2]), changes(0, [1])), [1, 1])
        self.assertEqual(last(define(0, 1, 1, 2, [2]), changes(0, [1])), [2, 1, 2])

    def test_day_99999(self):
        self.assertEqual(last(define(0, 1, 99999, 0, [2]), changes(0, [1])), [1, 99999])
        self.assertEqual(last(define(0, 1, 99998, 99999, [2]), changes(0, [1])), [2, 99998, 99999])
        self.assertEqual(last(define(0, 1, 0, 99999, [2]), changes(0, [1])), [1, 99999])

    def test_rising_whatever_the_order_told(self):
        told = (define(0, 3, 70, 80, [9]), define(0, 1, 1000, 2000, [9]), define(0, 2, 7, 300, [9]))
        self.assertEqual(last(*told, changes(0, [1, 2, 3])), [6, 7, 70, 80, 300, 1000, 2000])

    def test_several_on_one_day_are_one(self):
        told = (define(0, 1, 5, 9, [2]), define(0, 3, 5, 0, [4]), define(0, 6, 2, 5, [4]))
        self.assertEqual(last(*told, changes(0, [1, 3, 6])), [3, 2, 5, 9])

    def test_one_after_another_with_the_same_body(self):
        told = (define(0, 1, 2, 5, [7]), define(0, 1, 5, 9, [7]))
        self.assertEqual(last(*told, changes(0, [1])), [2, 2, 9])

    def test_two_that_leave_the_text_as_it_was(self):
        told = (define(0, 1, 0, 5, [3]), define(0, 2, 5, 0, [3]), define(0, 3, 0, 0, [4]))
        self.assertEqual(last(*told, changes(0, [1, 2])), [1, 5])
        # Here what the one loses the other one brings, on the same day.
        told = (define(0, 1, 0, 5, [2, 3]), define(0, 1, 5, 0, [4, 3]), define(0, 4, 5, 0, [2]))
        self.assertEqual(last(*told, changes(0, [1])), [0])
        self.assertEqual(last(*told, changes(0, [1, 4])), [1, 5])

    def test_hidden_one_changes_nothing(self):
        told = (define(0, 1, 8, 0, [2]), define(0, 1, 3, 20, [4]))
        self.assertEqual(last(*told, changes(0, [1])), [2, 3, 8])

    def test_word_defined_by_itself_is_refused_and_not_the_same(self):
        self.assertEqual(last(define(0, 1, 3, 0, [1]), changes(0, [1])), [-7])

    def test_as_many_words_in_another_order(self):
        told = (define(0, 1, 0, 0, [2, 3]), define(0, 1, 4, 0, [3, 2]))
        self.assertEqual(last(*told, changes(0, [1])), [1, 4])

    def test_through_bodies(self):
        told = (define(0, 1, 0, 0, [2]), define(0, 2, 0, 0, [3]), define(0, 3, 4, 8, [5, 5]))
        self.assertEqual(last(*told, changes(0, [1])), [2, 4, 8])
        self.assertEqual(last(*told, changes(0, [5])), [0])

    def test_at_that_part(self):
        told = (part(0), part(0), define(1, 1, 3, 6, [2]), define(0, 1, 4, 9, [5]), define(0, 5, 5, 0, [7]))
        self.assertEqual(last(*told, changes(1, [1])), [3, 3, 6, 9])
        self.assertEqual(last(*told, changes(2, [1])), [3, 4, 5, 9])
        self.assertEqual(last(*told, changes(0, [1])), [3, 4, 5, 9])

    def test_forty_days(self):
        told = [define(0, word, word * 10, word * 10 + 5, [90]) for word in range(1, 21)]
        expected = sorted([word * 10 for word in range(1, 21)] + [word * 10 + 5 for word in range(1, 21)])
        self.assertEqual(last(*told, changes(0, list(range(1, 21)))), [40] + expected)

    def test_each_day_told_is_another_than_the_day_before(self):
        told = (part(0), define(0, 1, 2, 9, [2, 3]), define(1, 2, 4, 0, [8]), define(0, 3, 0, 6, [8, 8]),
                define(1, 1, 5, 7, [2, 2]), define(0, 2, 1, 8, [7]))
        for place in (0, 1):
            seen = [last(*told, spell(place, day, [1, 2, 3])) for day in range(13)]
            days = [day for day in range(1, 13) if seen[day] != seen[day - 1]]
            self.assertEqual(last(*told, changes(place, [1, 2, 3])), [len(days)] + days)

    def test_changes_nothing(self):
        told = (define(0, 1, 3, 6, [2]), changes(0, [1, 9]), changes(0, [1, 9]), means(0, 1, 3), rename(9, 8),
                define(0, 4, 0, 0, [5]))
        self.assertEqual(ask(*told)[1:], [[2, 3, 6], [2, 3, 6], [1, 0, 0, 2], [-6], [1]])


class Refusals(unittest.TestCase):
    def test_part_that_is_not_there(self):
        self.assertEqual(ask(changes(1, []), changes(TOP, [1]), part(0), changes(1, [1]), changes(2, [1])),
                         [[-2], [-2], [1], [0], [-2]])

    def test_20_words_and_21(self):
        self.assertEqual(last(changes(0, [3] * 20)), [0])
        self.assertEqual(last(changes(0, [3] * 21)), [-1])
        self.assertEqual(last(changes(0, [3] * 30)), [-1])

    def test_words_from_1_to_99999(self):
        self.assertEqual(last(changes(0, [1, 99999])), [0])
        for word in (0, 100000, TOP):
            self.assertEqual(last(changes(0, [word])), [-1])
            self.assertEqual(last(changes(0, [1, word])), [-1])
            self.assertEqual(last(changes(0, [word, 1])), [-1])

    def test_exactly_1000_words(self):
        told = (define(0, 1, 0, 0, [2] * 10), define(0, 2, 4, 8, [3] * 5))
        self.assertEqual(last(*told, changes(0, [1] * 20)), [2, 4, 8])

    def test_more_than_1000_words_on_some_day_alone(self):
        told = (define(0, 1, 0, 0, [2] * 10), define(0, 2, 4, 8, [3] * 5), define(0, 6, 0, 0, [2] * 9 + [3] * 6))
        self.assertEqual(last(*told, changes(0, [1] * 19 + [6])), [-5])
        for start, stop in ((0, 1), (0, 5), (3, 4), (99998, 99999), (99999, 0)):
            told = (define(0, 1, 0, 0, [2] * 20), define(0, 2, start, stop, [3] * 3))
            self.assertEqual(last(*told, changes(0, [1] * 20)), [-5])
            self.assertEqual(last(*told, changes(0, [1] * 10))[0], len([day for day in (start, stop) if day]))

    def test_a_circle_on_some_day_alone(self):
        for start, stop in ((0, 1), (0, 5), (3, 4), (99998, 99999), (99999, 0)):
            told = (define(0, 1, 0, 0, [5, 2]), define(0, 2, start, stop, [1]))
            self.assertEqual(last(*told, changes(0, [1])), [-7])
            self.assertEqual(last(*told, changes(0, [7, 2])), [-7])
            self.assertEqual(last(*told, changes(0, [7, 5])), [0])

    def test_a_circle_that_the_text_does_not_lead_into(self):
        told = (define(0, 1, 0, 0, [1]), define(0, 2, 4, 0, [3]))
        self.assertEqual(last(*told, changes(0, [2])), [1, 4])
        self.assertEqual(last(*told, changes(0, [2, 1])), [-7])

    def test_one_of_each_on_different_days(self):
        long = [define(0, 1, 0, 0, [2] * 20), define(0, 2, 0, 0, [3] * 20)]
        for first, second in (((0, 5), (5, 9)), ((5, 9), (0, 5)), ((3, 4), (99999, 0)), ((99999, 0), (3, 4))):
            told = long + [define(0, 3, first[0], first[1], [4] * 20), define(0, 2, second[0], second[1], [2])]
            self.assertEqual(last(*told, changes(0, [1])), [-5])
            self.assertEqual(last(*told, changes(0, [2])), [-7])

    def test_one_of_each_on_the_same_day(self):
        # What can't be spelled out on a day has no number of words on it.
        told = chain(4, 20) + [define(0, 30, 0, 0, [30])]
        self.assertEqual(last(*told, changes(0, [1, 30])), [-7])
        self.assertEqual(last(*told, changes(0, [30, 1])), [-7])
        told = chain(4, 20) + [define(0, 30, 5, 0, [30])]
        self.assertEqual(last(*told, changes(0, [1, 30])), [-5])

    def test_first_refusal_told_counts(self):
        told = chain(4, 20) + [define(0, 30, 0, 0, [30])]
        for words in ([0], [1], [30], [1, 0], [30, 0], [3] * 21):
            self.assertEqual(last(*told, changes(1, words)), [-2])
        for words in ([1, 0], [30, 100000], [1] * 21, [30] * 21):
            self.assertEqual(last(*told, changes(0, words)), [-1])
        self.assertEqual(last(*told, changes(0, [1])), [-5])
        self.assertEqual(last(*told, changes(0, [30])), [-7])


if __name__ == "__main__":
    unittest.main()
