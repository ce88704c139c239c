"""begins, part, define and ends: what they answer, refuse and change."""

import unittest

from tests.helper import TOP, ask, begins, define, ends, last, means, part, rename, spell

WRONG_WORDS = (0, 100000, TOP)


def fourteen_parts():
    return [part(0) for number in range(14)]


def twenty_definitions():
    return [define(0, 1, 0, 0, [2]) for number in range(20)]


class Begins(unittest.TestCase):
    def test_answers_0(self):
        self.assertEqual(ask(begins()), [[0]])

    def test_parts_told_before_are_gone(self):
        self.assertEqual(ask(part(0, [3]), begins(), part(1, [4]), means(1, 3, 0), part(0, [4])),
                         [[1], [0], [-2], [-2], [1]])

    def test_definitions_told_before_are_gone(self):
        self.assertEqual(ask(define(0, 5, 0, 0, [6]), begins(), means(0, 5, 0), spell(0, 0, [5]), ends(0, 9),
                             define(0, 5, 0, 0, [7]), means(0, 5, 0)),
                         [[0], [0], [0], [1, 5], [-2], [0], [1, 0, 0, 7]])

    def test_words_told_before_stand_nowhere(self):
        told = (part(0, [3]), define(0, 4, 0, 0, [5]), begins())
        for word in (3, 4, 5):
            self.assertEqual(last(*told, rename(word, 9)), [-6])
            self.assertEqual(ask(*told, part(0, [8]), rename(8, word))[-2:], [[1], [0]])

    def test_makes_room_again(self):
        self.assertEqual(ask(*fourteen_parts(), begins(), *fourteen_parts())[14:],
                         [[0]] + [[number] for number in range(1, 15)])
        self.assertEqual(ask(*twenty_definitions(), begins(), *twenty_definitions())[20:],
                         [[0]] + [[number] for number in range(20)])

    def test_may_be_told_at_any_place_and_several_times(self):
        self.assertEqual(ask(begins(), begins(), part(0, [3]), part(1), begins(), begins(), part(0), part(1), begins()),
                         [[0], [0], [1], [2], [0], [0], [1], [2], [0]])

    def test_without_it_the_whole_is_there_alone(self):
        self.assertEqual(ask(means(0, 1, 0), means(1, 1, 0), ends(0, 1)), [[0], [-2], [-2]])


class Parts(unittest.TestCase):
    def test_are_numbered_behind_the_whole(self):
        self.assertEqual(ask(part(0, [1]), part(1, [2, 3]), part(0, [4])), [[1], [2], [3]])

    def test_may_have_no_words(self):
        self.assertEqual(last(part(0, [])), [1])

    def test_take_20_words_and_not_21(self):
        self.assertEqual(last(part(0, [7] * 20)), [1])
        self.assertEqual(last(part(0, [7] * 21)), [-1])
        self.assertEqual(last(part(0, [7] * 30)), [-1])

    def test_take_words_from_1_to_99999(self):
        self.assertEqual(last(part(0, [1, 99999])), [1])
        for word in WRONG_WORDS:
            self.assertEqual(last(part(0, [word])), [-1])
            self.assertEqual(last(part(0, [1, word])), [-1])
            self.assertEqual(last(part(0, [word, 1])), [-1])

    def test_are_in_a_part_told_before(self):
        self.assertEqual(ask(part(1), part(0), part(1), part(3), part(TOP)), [[-2], [1], [2], [-2], [-2]])

    def test_are_15_with_the_whole_and_no_more(self):
        given = ask(*fourteen_parts(), part(0), part(14, [3]))
        self.assertEqual(given[:14], [[number] for number in range(1, 15)])
        self.assertEqual(given[14:], [[-5], [-5]])

    def test_first_refusal_told_counts(self):
        self.assertEqual(last(part(1, [0])), [-2])
        self.assertEqual(last(part(9, [3] * 21)), [-2])
        self.assertEqual(last(*fourteen_parts(), part(15, [0])), [-2])
        self.assertEqual(last(*fourteen_parts(), part(15)), [-2])
        self.assertEqual(last(*fourteen_parts(), part(0, [0])), [-1])
        self.assertEqual(last(*fourteen_parts(), part(0, [3] * 21)), [-1])

    def test_refused_change_nothing(self):
        self.assertEqual(ask(part(1, [3]), part(0, [3, 0]), part(0, [3] * 21), rename(3, 4), means(1, 1, 0), part(0)),
                         [[-2], [-1], [-1], [-6], [-2], [1]])
        self.assertEqual(ask(*fourteen_parts(), part(0, [3]), rename(3, 4), means(15, 1, 0))[14:], [[-5], [-6], [-2]])


class Definitions(unittest.TestCase):
    def test_are_numbered_from_0(self):
        self.assertEqual(ask(define(0, 1, 0, 0, [2]), part(0), define(1, 1, 3, 9, [2, 3])), [[0], [1], [1]])

    def test_are_for_a_part_that_is_there(self):
        self.assertEqual(ask(define(1, 1, 0, 0, [2]), part(0), define(1, 1, 0, 0, [2]), define(TOP, 1, 0, 0, [2])),
                         [[-2], [1], [0], [-2]])

    def test_are_of_a_word_from_1_to_99999(self):
        self.assertEqual(last(define(0, 1, 0, 0, [2])), [0])
        self.assertEqual(last(define(0, 99999, 0, 0, [2])), [0])
        for word in WRONG_WORDS:
            self.assertEqual(last(define(0, word, 0, 0, [2])), [-1])

    def test_have_a_body_of_words_from_1_to_99999(self):
        self.assertEqual(last(define(0, 3, 0, 0, [1, 99999])), [0])
        for word in WRONG_WORDS:
            self.assertEqual(last(define(0, 3, 0, 0, [word])), [-1])
            self.assertEqual(last(define(0, 3, 0, 0, [2, word, 2])), [-1])

    def test_have_a_body_of_1_to_20_words(self):
        self.assertEqual(last(define(0, 3, 0, 0, [])), [-1])
        self.assertEqual(last(define(0, 3, 0, 0, [2])), [0])
        self.assertEqual(last(define(0, 3, 0, 0, [2] * 20)), [0])
        self.assertEqual(last(define(0, 3, 0, 0, [2] * 21)), [-1])
        self.assertEqual(last(define(0, 3, 0, 0, [2] * 30)), [-1])

    def test_begin_on_a_day_up_to_99999(self):
        self.assertEqual(last(define(0, 3, 99999, 0, [2])), [0])
        self.assertEqual(last(define(0, 3, 100000, 0, [2])), [-1])
        self.assertEqual(last(define(0, 3, TOP, 0, [2])), [-1])
        self.assertEqual(last(define(0, 3, 100000, 100001, [2])), [-1])

    def test_end_on_a_day_up_to_99999(self):
        self.assertEqual(last(define(0, 3, 0, 99999, [2])), [0])
        self.assertEqual(last(define(0, 3, 99998, 99999, [2])), [0])
        self.assertEqual(last(define(0, 3, 0, 100000, [2])), [-1])
        self.assertEqual(last(define(0, 3, 99999, 100000, [2])), [-1])
        self.assertEqual(last(define(0, 3, 0, TOP, [2])), [-1])

    def test_end_behind_their_beginning(self):
        self.assertEqual(last(define(0, 3, 5, 4, [2])), [-1])
        self.assertEqual(last(define(0, 3, 5, 5, [2])), [-1])
        self.assertEqual(last(define(0, 3, 5, 6, [2])), [0])
        self.assertEqual(last(define(0, 3, 5, 0, [2])), [0])
        self.assertEqual(last(define(0, 3, 0, 0, [2])), [0])
        self.assertEqual(last(define(0, 3, 0, 1, [2])), [0])

    def test_are_20_and_no_more(self):
        given = ask(*twenty_definitions(), define(0, 1, 0, 0, [2]))
        self.assertEqual(given[:20], [[number] for number in range(20)])
        self.assertEqual(given[20:], [[-5]])

    def test_that_ended_still_count_among_the_20(self):
        self.assertEqual(last(*twenty_definitions(), ends(0, 1), define(0, 1, 0, 0, [2])), [-5])

    def test_first_refusal_told_counts(self):
        wrong = (define(1, 0, 0, 0, [2]), define(1, 3, 5, 5, [2]), define(1, 3, 100000, 0, [2]),
                 define(1, 3, 0, 0, []), define(1, 3, 0, 0, [0]), define(1, 3, 0, 0, [2] * 21))
        for one in wrong:
            self.assertEqual(last(one), [-2])
            self.assertEqual(last(*twenty_definitions(), one), [-2])
            self.assertEqual(last(*twenty_definitions(), part(0), one), [-1])
        self.assertEqual(last(*twenty_definitions(), define(1, 1, 0, 0, [2])), [-2])

    def test_refused_change_nothing(self):
        self.assertEqual(ask(define(1, 3, 0, 0, [2]), define(0, 3, 0, 0, []), define(0, 3, 5, 5, [2]),
                             define(0, 3, 0, 0, [2, 0]), rename(3, 4), rename(2, 4), means(0, 3, 5),
                             ends(0, 9), define(0, 3, 0, 0, [2])),
                         [[-2], [-1], [-1], [-1], [-6], [-6], [0], [-2], [0]])
        self.assertEqual(ask(*twenty_definitions(), define(0, 8, 0, 0, [9]), means(0, 8, 0), rename(9, 7),
                             ends(20, 5))[20:],
                         [[-5], [0], [-6], [-2]])


class Ends(unittest.TestCase):
    def test_ends_what_was_without_end(self):
        self.assertEqual(ask(define(0, 3, 5, 0, [2]), means(0, 3, 9), ends(0, 9), means(0, 3, 8), means(0, 3, 9)),
                         [[0], [1, 0, 0, 2], [0], [1, 0, 0, 2], [0]])

    def test_holds_whatever_was_told(self):
        told = (define(0, 3, 5, 20, [2]), ends(0, 10), means(0, 3, 10), ends(0, 30), means(0, 3, 10), means(0, 3, 29),
                means(0, 3, 30), ends(0, 7), means(0, 3, 7), means(0, 3, 6))
        counts = [1, 0, 0, 2]
        self.assertEqual(ask(*told), [[0], [0], [0], [0], counts, counts, [0], [0], [0], counts])

    def test_takes_days_behind_the_beginning(self):
        self.assertEqual(ask(define(0, 3, 5, 0, [2]), ends(0, 0), ends(0, 4), ends(0, 5), ends(0, 6)),
                         [[0], [-1], [-1], [-1], [0]])
        self.assertEqual(ask(define(0, 3, 0, 0, [2]), ends(0, 0), ends(0, 1), means(0, 3, 0), means(0, 3, 1)),
                         [[0], [-1], [0], [1, 0, 0, 2], [0]])

    def test_takes_days_up_to_99999(self):
        self.assertEqual(ask(define(0, 3, 5, 0, [2]), ends(0, 99999), ends(0, 100000), ends(0, TOP),
                             means(0, 3, 99998), means(0, 3, 99999)),
                         [[0], [0], [-1], [-1], [1, 0, 0, 2], [0]])
        self.assertEqual(ask(define(0, 3, 99999, 0, [2]), ends(0, 99999), ends(0, 100000)), [[0], [-1], [-1]])

    def test_takes_definitions_that_are_there(self):
        self.assertEqual(ask(ends(0, 9), define(0, 3, 5, 0, [2]), ends(1, 9), ends(TOP, 9), ends(0, 9)),
                         [[-2], [0], [-2], [-2], [0]])

    def test_first_refusal_told_counts(self):
        self.assertEqual(ask(ends(0, 0), ends(0, 100000), ends(3, TOP)), [[-2], [-2], [-2]])

    def test_ends_that_definition_alone(self):
        self.assertEqual(ask(define(0, 3, 0, 0, [2]), define(0, 4, 0, 0, [5]), ends(1, 6), means(0, 3, 6),
                             means(0, 4, 6))[2:],
                         [[0], [1, 0, 0, 2], [0]])

    def test_refused_changes_nothing(self):
        self.assertEqual(ask(define(0, 3, 5, 20, [2]), ends(0, 5), ends(0, 100000), means(0, 3, 19), means(0, 3, 20),
                             spell(0, 19, [3]))[3:],
                         [[1, 0, 0, 2], [0], [1, 2]])


if __name__ == "__main__":
    unittest.main()
