"""unused: which definitions in force no text needs."""

import unittest

from tests.helper import TOP, ask, chain, define, ends, last, part, rename, text, unused


class Needed(unittest.TestCase):
    def test_nothing_there(self):
        self.assertEqual(last(unused(0)), [0])
        self.assertEqual(last(part(0, [1, 2]), unused(0)), [0])

    def test_without_texts_none_is_needed(self):
        self.assertEqual(last(define(0, 1, 0, 0, [2]), define(0, 2, 0, 0, [3]), unused(0)), [2, 0, 1])
        self.assertEqual(last(part(0), define(1, 1, 0, 0, [2]), unused(0)), [1, 0])

    def test_by_a_text(self):
        told = (part(0, [4, 1]), define(0, 1, 0, 0, [2]), define(0, 3, 0, 0, [2]), define(0, 4, 0, 0, [2]))
        self.assertEqual(last(*told, unused(0)), [1, 1])

    def test_by_the_texts_of_all_parts(self):
        told = (part(0, [1]), part(0, [2]), part(2, [3]), define(0, 1, 0, 0, [9]), define(0, 2, 0, 0, [9]),
                define(0, 3, 0, 0, [9]), define(0, 4, 0, 0, [9]))
        self.assertEqual(last(*told, unused(0)), [1, 3])

    def test_each_text_at_its_part(self):
        told = (part(0, [1]), part(1, [2]), define(2, 1, 0, 0, [9]), define(1, 2, 0, 0, [9]), define(1, 1, 0, 0, [9]),
                define(0, 2, 0, 0, [9]))
        self.assertEqual(last(*told, unused(0)), [2, 0, 3])

    def test_by_the_body_of_a_needed_one(self):
        told = (part(0, [1]), define(0, 1, 0, 0, [5, 2]), define(0, 2, 0, 0, [3]), define(0, 4, 0, 0, [3]))
        self.assertEqual(last(*told, unused(0)), [1, 2])

    def test_bodies_at_their_definitions_part(self):
        told = (part(0, [1]), define(0, 1, 0, 0, [2]), define(1, 2, 0, 0, [8]), define(0, 2, 0, 0, [9]))
        self.assertEqual(last(*told, unused(0)), [1, 1])

    def test_over_several_steps(self):
        self.assertEqual(last(part(0, [1]), *chain(20, 1), unused(0)), [0])
        self.assertEqual(last(part(0, [1]), *reversed(chain(20, 1)), unused(0)), [0])
        self.assertEqual(last(part(0, [8]), *chain(20, 2), unused(0)), [7] + list(range(7)))

    def test_by_one_that_is_not_needed(self):
        told = (part(0, [1]), define(0, 1, 0, 0, [9]), define(0, 2, 0, 0, [3]), define(0, 3, 0, 0, [4, 1]))
        self.assertEqual(last(*told, unused(0)), [2, 1, 2])

    def test_hidden_by_another(self):
        told = (part(0, [1]), define(0, 1, 0, 0, [2]), define(0, 1, 5, 0, [3]), define(0, 2, 0, 0, [4]))
        self.assertEqual(last(*told, unused(4)), [0])
        self.assertEqual(last(*told, unused(5)), [2, 0, 2])

    def test_that_of_a_part_between(self):
        told = (part(0, [3]), part(1, [1]), define(0, 1, 0, 0, [9]), define(1, 1, 2, 4, [9]))
        self.assertEqual([last(*told, unused(day)) for day in (1, 2, 3, 4)], [[0], [1, 0], [1, 0], [0]])

    def test_renamed_words_need_the_same(self):
        told = (part(0, [1]), define(0, 1, 0, 0, [2]), define(0, 2, 0, 0, [3]), define(0, 5, 0, 0, [3]))
        self.assertEqual(ask(*told, unused(0), rename(1, 8), unused(0), rename(2, 9), unused(0))[4:],
                         [[1, 2], [0], [1, 2], [0], [1, 2]])


class Days(unittest.TestCase):
    def test_not_in_force_is_not_told(self):
        told = (define(0, 1, 0, 5, [2]), define(0, 3, 3, 0, [2]))
        expected = {0: [1, 0], 2: [1, 0], 3: [2, 0, 1], 4: [2, 0, 1], 5: [1, 1], 99999: [1, 1], TOP: [1, 1]}
        for day, answer in expected.items():
            self.assertEqual(last(*told, unused(day)), answer)
        self.assertEqual(last(*told, ends(0, 4), unused(4)), [1, 1])

    def test_needed_by_one_while_that_is_in_force(self):
        told = (part(0, [1]), define(0, 1, 3, 6, [2]), define(0, 2, 0, 0, [9]))
        self.assertEqual([last(*told, unused(day)) for day in (2, 3, 5, 6)], [[1, 1], [0], [0], [1, 1]])


class Circles(unittest.TestCase):
    def test_that_no_text_needs(self):
        told = (part(0, [5]), define(0, 1, 0, 0, [2]), define(0, 2, 0, 0, [1]), define(0, 3, 0, 0, [3]))
        self.assertEqual(last(*told, unused(0)), [3, 0, 1, 2])

    def test_that_a_text_needs(self):
        told = (part(0, [5, 1]), define(0, 1, 0, 0, [2]), define(0, 2, 0, 0, [1, 4]), define(0, 3, 0, 0, [3]),
                define(0, 4, 0, 0, [4]))
        self.assertEqual(last(*told, unused(0)), [1, 2])

    def test_longest(self):
        told = [define(0, word, 0, 0, [word % 20 + 1] * 20) for word in range(1, 21)]
        self.assertEqual(last(part(0, [7]), *told, unused(0)), [0])
        self.assertEqual(last(part(0, [21]), *told, unused(0)), [20] + list(range(20)))


class Unchanged(unittest.TestCase):
    def test_asked_again(self):
        told = (part(0, [1]), define(0, 1, 0, 0, [2]), define(0, 3, 0, 0, [4]))
        self.assertEqual(ask(*told, unused(0), unused(0), text(1, 0), define(0, 3, 0, 0, [4]))[3:],
                         [[1, 1], [1, 1], [1, 2], [2]])


if __name__ == "__main__":
    unittest.main()
