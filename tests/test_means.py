"""means: which definition a word has at a part, on a day."""

import unittest

from tests.helper import TOP, ask, define, ends, last, means, part


class Days(unittest.TestCase):
    def test_in_force_from_a_day_up_to_another(self):
        told = (define(0, 3, 5, 8, [2, 4]),)
        counts = [1, 0, 0, 2, 4]
        expected = {0: [0], 4: [0], 5: counts, 7: counts, 8: [0], 99999: [0], TOP: [0]}
        for day, answer in expected.items():
            self.assertEqual(last(*told, means(0, 3, day)), answer)

    def test_in_force_without_end(self):
        told = (define(0, 3, 5, 0, [2]),)
        expected = {0: [0], 4: [0], 5: [1, 0, 0, 2], 99999: [1, 0, 0, 2], 100000: [1, 0, 0, 2], TOP: [1, 0, 0, 2]}
        for day, answer in expected.items():
            self.assertEqual(last(*told, means(0, 3, day)), answer)

    def test_in_force_on_the_edges_of_days(self):
        self.assertEqual(ask(define(0, 3, 0, 1, [2]), means(0, 3, 0), means(0, 3, 1))[1:], [[1, 0, 0, 2], [0]])
        self.assertEqual(ask(define(0, 3, 99999, 0, [2]), means(0, 3, 99998), means(0, 3, 99999))[1:],
                         [[0], [1, 0, 0, 2]])
        self.assertEqual(ask(define(0, 3, 99998, 99999, [2]), means(0, 3, 99998), means(0, 3, 99999))[1:],
                         [[1, 0, 0, 2], [0]])


class Several(unittest.TestCase):
    def test_that_came_into_force_last_counts(self):
        early = define(0, 3, 2, 0, [20])
        late = define(0, 3, 6, 0, [60])
        self.assertEqual(ask(early, late, means(0, 3, 5), means(0, 3, 6))[2:], [[1, 0, 0, 20], [1, 1, 0, 60]])
        self.assertEqual(ask(late, early, means(0, 3, 5), means(0, 3, 6))[2:], [[1, 1, 0, 20], [1, 0, 0, 60]])

    def test_that_is_not_in_force_any_more_gives_way(self):
        told = (define(0, 3, 2, 0, [20]), define(0, 3, 6, 9, [60]))
        self.assertEqual(last(*told, means(0, 3, 8)), [1, 1, 0, 60])
        self.assertEqual(last(*told, means(0, 3, 9)), [1, 0, 0, 20])
        self.assertEqual(last(*told, ends(1, 7), means(0, 3, 7)), [1, 0, 0, 20])

    def test_of_the_same_day_the_one_told_last_counts(self):
        told = (define(0, 3, 2, 0, [20]), define(0, 3, 2, 9, [21]), define(0, 3, 2, 5, [22]))
        self.assertEqual(last(*told, means(0, 3, 4)), [1, 2, 0, 22])
        self.assertEqual(last(*told, means(0, 3, 5)), [1, 1, 0, 21])
        self.assertEqual(last(*told, means(0, 3, 9)), [1, 0, 0, 20])

    def test_ended_last_is_not_told_last(self):
        told = (define(0, 3, 2, 0, [20]), define(0, 3, 2, 0, [21]), ends(0, 50))
        self.assertEqual(last(*told, means(0, 3, 4)), [1, 1, 0, 21])

    def test_beginning_counts_and_not_the_end(self):
        told = (define(0, 3, 4, 9, [40]), define(0, 3, 2, 30, [20]))
        self.assertEqual(last(*told, means(0, 3, 8)), [1, 0, 0, 40])

    def test_other_words_have_others(self):
        told = (define(0, 3, 2, 0, [20]), define(0, 4, 2, 0, [21]))
        self.assertEqual(ask(*told, means(0, 3, 4), means(0, 4, 4), means(0, 5, 4), means(0, 20, 4))[2:],
                         [[1, 0, 0, 20], [1, 1, 0, 21], [0], [0]])


class Places(unittest.TestCase):
    def setUp(self):
        # 0 holds 1 and 3; 1 holds 2; 2 holds 4.
        self.parts = (part(0), part(1), part(0), part(2))

    def test_own_part_comes_first(self):
        told = self.parts + (define(1, 7, 2, 0, [10]), define(0, 7, 9, 0, [11]), define(2, 7, 1, 0, [12]))
        self.assertEqual(last(*told, means(1, 7, 20)), [1, 0, 1, 10])
        self.assertEqual(last(*told, means(0, 7, 20)), [1, 1, 0, 11])
        self.assertEqual(last(*told, means(2, 7, 20)), [1, 2, 2, 12])

    def test_up_through_all_parts_to_the_whole(self):
        told = self.parts + (define(0, 7, 0, 0, [11]),)
        for place in range(5):
            self.assertEqual(last(*told, means(place, 7, 0)), [1, 0, 0, 11])

    def test_nearest_part_above_counts(self):
        told = self.parts + (define(1, 7, 0, 0, [10]), define(0, 7, 5, 0, [11]))
        self.assertEqual(last(*told, means(4, 7, 9)), [1, 0, 1, 10])
        self.assertEqual(last(*told, means(3, 7, 9)), [1, 1, 0, 11])

    def test_one_above_counts_while_that_here_is_not_in_force(self):
        told = self.parts + (define(2, 7, 5, 8, [10]), define(0, 7, 0, 0, [11]))
        self.assertEqual(last(*told, means(2, 7, 4)), [1, 1, 0, 11])
        self.assertEqual(last(*told, means(2, 7, 5)), [1, 0, 2, 10])
        self.assertEqual(last(*told, means(4, 7, 7)), [1, 0, 2, 10])
        self.assertEqual(last(*told, means(4, 7, 8)), [1, 1, 0, 11])

    def test_parts_beside_and_below_give_none(self):
        told = self.parts + (define(2, 7, 0, 0, [10]),)
        self.assertEqual([last(*told, means(place, 7, 0)) for place in (0, 1, 3)], [[0], [0], [0]])

    def test_none_at_all(self):
        self.assertEqual(last(*self.parts, means(4, 7, 0)), [0])

    def test_up_through_the_longest_way(self):
        deep = [part(above) for above in range(14)]
        self.assertEqual(last(*deep, define(0, 7, 0, 0, [8]), means(14, 7, 0)), [1, 0, 0, 8])


class Refusals(unittest.TestCase):
    def test_part_that_is_not_there(self):
        self.assertEqual(ask(means(1, 3, 0), means(TOP, 0, TOP), part(0), means(1, 3, 0), means(2, 3, 0)),
                         [[-2], [-2], [1], [0], [-2]])

    def test_words_and_days_are_not_refused(self):
        for word in (0, 1, 99999, 100000, TOP):
            for day in (0, 99999, 100000, TOP):
                self.assertEqual(last(means(0, word, day)), [0])

    def test_bodies_are_told_whole(self):
        body = list(range(30, 50))
        self.assertEqual(last(define(0, 99999, 0, 0, body), means(0, 99999, 0)), [1, 0, 0] + body)


if __name__ == "__main__":
    unittest.main()
