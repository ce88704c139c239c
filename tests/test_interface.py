"""answers: how calls are handed in, and what stays as it was."""

import contextlib
import io
import sys
import unittest

from lawwords.laws import answers
from tests.helper import (TOP, begins, changes, circles, define, differs, ends, hidden, line, means, part, rename,
                          spell, taken_apart, text, unused)


def sixty_calls():
    told = [begins()] + [part(above, [1, 2, 3]) for above in range(14)]
    told += [define(word % 15, word, word, 0, [word + 1] * 20) for word in range(1, 21)]
    told += [rename(2, 50), ends(3, 40), means(3, 4, 30), spell(14, 60, [20, 19, 7]), spell(0, 0, [0] * 30)]
    told += [text(14, 20), text(2, 1), circles(20), unused(20), hidden(20), differs(3, 9, 20, [4, 5, 9, 1])]
    told += [changes(14, [20, 7, 9, 7]), changes(2, [1] * 20)]
    return told + [means(14, word, TOP) for word in range(1, 13)]


class Interface(unittest.TestCase):
    def test_answers_stand_one_behind_another(self):
        calls = [0, 0, 0,
                 1, 3, 0, 7, 8, 0,
                 2, 6, 1, 7, 3, 0, 9, 9, 0,
                 3, 2, 0, 6, 0,
                 4, 2, 8, 5, 0,
                 5, 3, 1, 7, 4, 0,
                 6, 4, 1, 4, 7, 8, 0,
                 6, 2, 0, 0, 0,
                 1, 2, 5, 7, 0,
                 1, 1, 0, 0]
        self.assertEqual(answers(calls),
                         [1, 0, 1, 1, 1, 0, 1, 0, 1, 0, 5, 1, 0, 1, 9, 9, 4, 3, 9, 9, 8, 1, 0, 1, -2, 1, 2])

    def test_all_thirteen_in_one_list(self):
        calls = [0, 0, 0,
                 1, 4, 0, 1, 2, 6, 0,           # part 1: 1 2 6
                 1, 2, 1, 2, 0,                 # part 2, in 1: 2
                 2, 6, 0, 1, 0, 0, 3, 4, 0,     # 0: for the whole, 1 is 3 4
                 2, 5, 1, 2, 5, 9, 1, 0,        # 1: for part 1, on 5 to 8, 2 is 1
                 2, 5, 0, 7, 0, 0, 7, 0,        # 2: for the whole, 7 is 7
                 2, 5, 0, 1, 0, 0, 5, 0,        # 3: for the whole, 1 is 5
                 3, 2, 3, 8, 0,                 # 3 ends on 8
                 4, 2, 6, 66, 0,
                 5, 3, 2, 1, 6, 0,
                 6, 4, 2, 6, 2, 66, 0,
                 7, 2, 1, 8, 0,
                 8, 1, 6, 0,
                 9, 1, 6, 0,
                 10, 1, 6, 0,
                 11, 6, 0, 2, 6, 1, 2, 2, 0,
                 12, 3, 2, 1, 2, 0]
        self.assertEqual(answers(calls),
                         [1, 0, 1, 1, 1, 2, 1, 0, 1, 1, 1, 2, 1, 3, 1, 0, 1, 0,
                          4, 1, 3, 0, 5,
                          3, 2, 5, 66,
                          6, 5, 3, 4, 3, 4, 66,
                          2, 1, 2,
                          3, 2, 0, 2,
                          2, 1, 0,
                          3, 2, 1, 2,
                          4, 3, 5, 8, 9])

    def test_all_thirteen_in_one_list_twice(self):
        calls = sixty_calls()
        self.assertEqual({one[0] for one in calls}, set(range(13)))
        asked = [one for one in calls if one[0] > 4]
        told = [one for one in calls if one[0] < 5]
        # What is only asked changes nothing, whatever was asked before.
        given = taken_apart(answers(line(told + asked)))
        self.assertEqual(given[len(told):], [taken_apart(answers(line(told + [one])))[-1] for one in asked])
        self.assertEqual(given[len(told):], taken_apart(answers(line(told + asked[::-1])))[len(told):][::-1])

    def test_one_call(self):
        self.assertEqual(answers([0, 0, 0]), [1, 0])

    def test_sixty_calls(self):
        calls = line(sixty_calls())
        self.assertEqual(len(sixty_calls()), 60)
        self.assertLessEqual(len(calls), 3000)
        self.assertEqual(answers(calls)[:4], [1, 0, 1, 1])

    def test_gives_a_list_of_whole_numbers(self):
        given = answers(line(sixty_calls()))
        self.assertIs(type(given), list)
        self.assertEqual({type(number) for number in given}, {int})

    def test_what_is_handed_in_stays(self):
        calls = line(sixty_calls())
        before = list(calls)
        answers(calls)
        self.assertEqual(calls, before)

    def test_what_is_handed_in_is_never_changed_on_the_way(self):
        class Kept(list):
            def refuse(self, *rest, **named):
                raise AssertionError("the list handed in is changed")

            append = extend = insert = pop = remove = clear = reverse = sort = refuse
            __setitem__ = __delitem__ = __iadd__ = __imul__ = refuse

        self.assertEqual(answers(Kept(line(sixty_calls()))), answers(line(sixty_calls())))

    def test_what_is_given_back_is_another_list_each_time(self):
        calls = line([define(0, 1, 0, 0, [2]), means(0, 1, 0)])
        first = answers(calls)
        expected = list(first)
        first.clear()
        self.assertEqual(answers(calls), expected)

    def test_nothing_is_kept(self):
        calls = line([part(0, [1]), define(1, 1, 0, 0, [2]), ends(0, 9), rename(1, 3)])
        look = line([means(1, 3, 0), means(0, 1, 0), ends(0, 9), rename(1, 3), part(0), define(0, 1, 0, 0, [2])])
        fresh = [1, -2, 1, 0, 1, -2, 1, -6, 1, 1, 1, 0]
        self.assertEqual(answers(look), fresh)
        self.assertEqual(answers(calls), [1, 1, 1, 0, 1, 0, 1, 0])
        self.assertEqual(answers(look), fresh)
        self.assertEqual(answers(calls), [1, 1, 1, 0, 1, 0, 1, 0])

    def test_prints_nothing(self):
        out = io.StringIO()
        err = io.StringIO()
        with contextlib.redirect_stdout(out), contextlib.redirect_stderr(err):
            answers(line(sixty_calls()))
        self.assertEqual(out.getvalue() + err.getvalue(), "")

    def test_goes_through_long_ways_by_loops(self):
        told = [part(above) for above in range(14)]
        told += [define(0, word, 0, 0, [word + 1]) for word in range(1, 21)]
        asked = [spell(14, 0, [1]), text(14, 0), circles(0), unused(0), hidden(0), differs(14, 0, 0, [1]),
                 changes(14, [1]), spell(14, 0, [1])]
        told += asked
        depth = 0
        frame = sys._getframe()
        while frame is not None:
            depth += 1
            frame = frame.f_back
        limit = sys.getrecursionlimit()
        sys.setrecursionlimit(depth + 18)
        try:
            given = answers(line(told))
        finally:
            sys.setrecursionlimit(limit)
        self.assertEqual(given[-3:], [2, 1, 21])


if __name__ == "__main__":
    unittest.main()
