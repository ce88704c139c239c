"""rename: where the word stands, and what is refused."""

import unittest

from tests.helper import TOP, ask, define, ends, last, means, part, rename, spell


class Rename(unittest.TestCase):
    def test_in_texts(self):
        self.assertEqual(ask(part(0, [3, 4, 3]), rename(3, 9), rename(3, 8), rename(9, 4), rename(9, 3), rename(9, 5)),
                         [[1], [0], [-6], [-3], [0], [-6]])

    def test_in_the_texts_of_all_parts(self):
        self.assertEqual(ask(part(0, [3]), part(1, [5, 3]), rename(3, 9), rename(3, 8)), [[1], [2], [0], [-6]])

    def test_in_bodies(self):
        self.assertEqual(ask(define(0, 1, 0, 0, [2, 3, 2, 2]), rename(2, 7), means(0, 1, 0), rename(2, 8)),
                         [[0], [0], [1, 0, 0, 7, 3, 7, 7], [-6]])

    def test_in_all_bodies(self):
        self.assertEqual(ask(define(0, 1, 0, 0, [2]), define(0, 4, 0, 0, [5, 2]), rename(2, 7), means(0, 1, 0),
                             means(0, 4, 0))[2:],
                         [[0], [1, 0, 0, 7], [1, 1, 0, 5, 7]])

    def test_as_what_is_defined(self):
        self.assertEqual(ask(part(0), define(0, 1, 0, 0, [2]), define(1, 1, 0, 0, [3]), rename(1, 7), means(0, 1, 0),
                             means(0, 7, 0), means(1, 7, 0), rename(1, 8))[3:],
                         [[0], [0], [1, 0, 0, 2], [1, 1, 1, 3], [-6]])

    def test_everywhere_at_once(self):
        self.assertEqual(ask(part(0, [1, 2]), define(0, 1, 0, 0, [3, 2]), define(0, 2, 0, 0, [1]), rename(2, 7),
                             means(0, 1, 0), means(0, 7, 0), means(0, 2, 0))[3:],
                         [[0], [1, 0, 0, 3, 7], [1, 1, 0, 1], [0]])

    def test_in_definitions_not_in_force(self):
        self.assertEqual(ask(define(0, 1, 0, 5, [2]), ends(0, 1), rename(1, 7), rename(2, 8), means(0, 7, 0),
                             rename(9, 7), rename(7, 8))[2:],
                         [[0], [0], [1, 0, 0, 8], [-6], [-3]])

    def test_keeps_what_is_spelled_out(self):
        told = (define(0, 1, 0, 0, [2, 3]), define(0, 2, 0, 0, [4, 4]))
        self.assertEqual(last(*told, spell(0, 0, [1])), [3, 4, 4, 3])
        self.assertEqual(last(*told, rename(2, 9), spell(0, 0, [1])), [3, 4, 4, 3])
        self.assertEqual(last(*told, rename(2, 9), spell(0, 0, [1, 2, 9])), [6, 4, 4, 3, 2, 4, 4])

    def test_takes_words_from_1_to_99999(self):
        self.assertEqual(ask(part(0, [1]), rename(1, 99999), rename(99999, 1)), [[1], [0], [0]])
        for word in (0, 100000, TOP):
            self.assertEqual(last(part(0, [1]), rename(1, word)), [-1])
            self.assertEqual(last(part(0, [1]), rename(word, 2)), [-1])
            self.assertEqual(last(rename(word, word)), [-1])

    def test_word_that_stands_nowhere(self):
        self.assertEqual(last(rename(1, 2)), [-6])
        self.assertEqual(last(part(0, [3]), define(0, 4, 0, 0, [5]), rename(6, 7)), [-6])

    def test_second_word_that_stands_somewhere(self):
        told = (part(0, [1, 2]), define(0, 3, 0, 0, [4]))
        for word in (2, 3, 4):
            self.assertEqual(last(*told, rename(1, word)), [-3])

    def test_both_words_the_same(self):
        self.assertEqual(last(part(0, [3]), rename(3, 3)), [-3])
        self.assertEqual(last(define(0, 3, 0, 0, [4]), rename(3, 3)), [-3])
        self.assertEqual(last(define(0, 3, 0, 0, [4]), rename(4, 4)), [-3])
        self.assertEqual(last(part(0, [3]), rename(5, 5)), [-6])

    def test_first_refusal_told_counts(self):
        self.assertEqual(last(part(0, [3]), rename(5, 0)), [-1])
        self.assertEqual(last(part(0, [3]), rename(0, 3)), [-1])
        self.assertEqual(last(part(0, [3]), rename(5, 3)), [-6])

    def test_refused_changes_nothing(self):
        told = (part(0, [1]), define(0, 3, 0, 0, [4, 1]))
        seen = [1, 0, 0, 4, 1]
        for refused in (rename(4, 1), rename(4, 3), rename(4, 0), rename(9, 4), rename(3, 100000), rename(4, 4)):
            self.assertEqual(last(*told, refused, means(0, 3, 0)), seen)
            self.assertEqual(last(*told, refused, rename(1, 8), means(0, 3, 0)), [1, 0, 0, 4, 8])


if __name__ == "__main__":
    unittest.main()
