"""differs: at which places of a text a word's definition at one part isn't that at another."""

import unittest

from tests.helper import TOP, ask, define, differs, ends, last, means, part, rename


class Differs(unittest.TestCase):
    def setUp(self):
        # 0 holds 1 and 3; 1 holds 2.
        self.parts = (part(0), part(1), part(0))

    def test_one_has_none(self):
        told = self.parts + (define(1, 7, 0, 0, [8]),)
        self.assertEqual(last(*told, differs(1, 0, 0, [7])), [1, 0])
        self.assertEqual(last(*told, differs(0, 1, 0, [7])), [1, 0])
        self.assertEqual(last(*told, differs(2, 3, 0, [6, 7])), [1, 1])

    def test_both_have_none(self):
        told = self.parts + (define(2, 7, 0, 0, [8]),)
        self.assertEqual(last(*told, differs(0, 1, 0, [7, 8])), [0])
        self.assertEqual(last(*told, differs(1, 3, 0, [7, 8])), [0])

    def test_both_have_the_same_one_from_above(self):
        told = self.parts + (define(0, 7, 0, 0, [8]), define(1, 9, 0, 0, [8]))
        self.assertEqual(last(*told, differs(2, 3, 0, [7])), [0])
        self.assertEqual(last(*told, differs(2, 0, 0, [7])), [0])
        self.assertEqual(last(*told, differs(1, 2, 0, [9])), [0])

    def test_each_has_another(self):
        told = self.parts + (define(0, 7, 0, 0, [8]), define(1, 7, 0, 0, [9]))
        self.assertEqual(last(*told, differs(1, 3, 0, [7])), [1, 0])
        self.assertEqual(last(*told, differs(2, 0, 0, [7])), [1, 0])
        self.assertEqual(last(*told, differs(1, 2, 0, [7])), [0])

    def test_another_with_the_same_body(self):
        told = self.parts + (define(0, 7, 0, 0, [8]), define(1, 7, 0, 0, [8]))
        self.assertEqual(last(*told, differs(0, 1, 0, [7])), [1, 0])

    def test_definition_0_is_not_none(self):
        told = self.parts + (define(1, 7, 0, 0, [8]), define(3, 7, 0, 0, [8]))
        self.assertEqual(last(*told, differs(1, 0, 0, [7])), [1, 0])
        self.assertEqual(last(*told, differs(0, 1, 0, [7])), [1, 0])

    def test_same_definition_whose_body_means_the_same(self):
        # The body is spelled at the whole, wherever the word stands.
        told = self.parts + (define(0, 7, 0, 0, [8]), define(1, 8, 0, 0, [9]))
        self.assertEqual(last(*told, differs(1, 3, 0, [7])), [0])
        self.assertEqual(last(*told, differs(1, 3, 0, [7, 8])), [1, 1])

    def test_same_part_twice(self):
        told = self.parts + (define(1, 7, 0, 0, [8]), define(0, 7, 0, 0, [7]))
        for place in range(4):
            self.assertEqual(last(*told, differs(place, place, 0, [7, 8, 9])), [0])

    def test_word_at_several_places(self):
        told = self.parts + (define(1, 7, 0, 0, [8]), define(0, 6, 0, 0, [8]))
        self.assertEqual(last(*told, differs(1, 3, 0, [7, 6, 7, 5, 7])), [3, 0, 2, 4])

    def test_all_of_20_places(self):
        told = self.parts + (define(1, 7, 0, 0, [8]),)
        self.assertEqual(last(*told, differs(1, 3, 0, [7] * 20)), [20] + list(range(20)))
        self.assertEqual(last(*told, differs(1, 3, 0, [8] * 20)), [0])
        self.assertEqual(last(*told, differs(1, 3, 0, [8] * 19 + [7])), [1, 19])

    def test_no_words(self):
        told = self.parts + (define(1, 7, 0, 0, [8]),)
        self.assertEqual(last(*told, differs(1, 3, 0, [])), [0])

    def test_on_that_day(self):
        told = self.parts + (define(0, 7, 0, 0, [8]), define(1, 7, 3, 6, [8]))
        expected = {0: [0], 2: [0], 3: [1, 0], 5: [1, 0], 6: [0], 99999: [0], TOP: [0]}
        for day, answer in expected.items():
            self.assertEqual(last(*told, differs(1, 3, day, [7])), answer)
        self.assertEqual(last(*told, ends(1, 5), differs(1, 3, 5, [7])), [0])

    def test_on_days_behind_99999(self):
        told = self.parts + (define(1, 7, 99999, 0, [8]),)
        self.assertEqual([last(*told, differs(1, 3, day, [7])) for day in (99998, 99999, 100000, TOP)],
                         [[0], [1, 0], [1, 0], [1, 0]])

    def test_circles_and_long_bodies_are_not_refused(self):
        told = self.parts + (define(1, 7, 0, 0, [7] * 20), define(0, 7, 0, 0, [7] * 20))
        self.assertEqual(last(*told, differs(1, 3, 0, [7] * 3)), [3, 0, 1, 2])


class Refusals(unittest.TestCase):
    def test_part_that_is_not_there(self):
        self.assertEqual(ask(differs(0, 0, 0, [1]), differs(0, 1, 0, [1]), differs(1, 0, 0, [1]), differs(1, 1, 0, []),
                             differs(TOP, TOP, TOP, []), part(0), differs(0, 1, 0, [1]), differs(1, 0, 0, [1]),
                             differs(2, 1, 0, [1]), differs(1, 2, 0, [1])),
                         [[0], [-2], [-2], [-2], [-2], [1], [0], [0], [-2], [-2]])

    def test_20_words_and_21(self):
        self.assertEqual(last(differs(0, 0, 0, [3] * 20)), [0])
        self.assertEqual(last(differs(0, 0, 0, [3] * 21)), [-1])
        self.assertEqual(last(differs(0, 0, 0, [3] * 30)), [-1])

    def test_words_from_1_to_99999(self):
        self.assertEqual(last(differs(0, 0, 0, [1, 99999])), [0])
        for word in (0, 100000, TOP):
            self.assertEqual(last(differs(0, 0, 0, [word])), [-1])
            self.assertEqual(last(differs(0, 0, 0, [1, word])), [-1])
            self.assertEqual(last(differs(0, 0, 0, [word, 1])), [-1])

    def test_all_days(self):
        for day in (0, 99999, 100000, TOP):
            self.assertEqual(last(differs(0, 0, day, [4])), [0])

    def test_first_refusal_told_counts(self):
        for words in ([0], [100000], [3] * 21):
            self.assertEqual(last(differs(1, 0, 0, words)), [-2])
            self.assertEqual(last(differs(0, 1, 0, words)), [-2])
            self.assertEqual(last(differs(1, 1, 0, words)), [-2])

    def test_changes_nothing(self):
        told = (part(0), define(1, 7, 0, 0, [8]))
        self.assertEqual(ask(*told, differs(0, 1, 0, [7, 9]), differs(0, 1, 0, [7, 9]), means(1, 7, 0), means(0, 7, 0),
                             rename(9, 10), rename(7, 9), differs(0, 1, 0, [7, 9]))[2:],
                         [[1, 0], [1, 0], [1, 0, 1, 8], [0], [-6], [0], [1, 1]])


if __name__ == "__main__":
    unittest.main()
