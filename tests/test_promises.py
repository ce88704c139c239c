"""What the document promises over all calls, on many laws; and that large laws are answered soon."""

import random
import time
import unittest

from tests.helper import (TOP, ask, begins, changes, circles, define, differs, hidden, last, line, means, part, rename,
                          spell, text, unused)

WORDS = range(1, 13)
DAYS = range(9)


def some_law(chance):
    """Its parts and its definitions, as calls."""
    parts = [part(chance.randrange(number), [chance.choice(WORDS) for place in range(chance.randrange(5))])
             for number in range(1, 6)]
    definitions = []
    for number in range(14):
        word = chance.choice(WORDS)
        start = chance.choice(DAYS)
        first = word + 1 if chance.randrange(8) else 1
        body = [chance.randrange(first, 15) for place in range(chance.randrange(1, 4))]
        definitions.append(define(chance.randrange(6), word, start, chance.choice((0, start + 1 + chance.choice(DAYS))),
                                  body))
    return parts, definitions


def questions():
    """All that can be asked of the law as it stands, without telling a word with the question."""
    asked = [one(day) for day in DAYS for one in (circles, unused, hidden)]
    return asked + [text(place, day) for day in DAYS for place in range(6)]


def asked_of(told, asked):
    given = []
    for at in range(0, len(asked), 20):
        given += ask(*told, *asked[at:at + 20])[len(told):]
    return given


class Promises(unittest.TestCase):
    def test_a_text_means_the_same_wherever_its_words_mean_the_same(self):
        same = 0
        for seed in range(200):
            chance = random.Random(seed)
            parts, definitions = some_law(chance)
            told = parts + definitions
            for number in range(5):
                place, other = chance.sample(range(6), 2)
                words = [chance.choice(WORDS) for at in range(3)]
                day = chance.choice(DAYS)
                found, here, there = ask(*told, differs(place, other, day, words), spell(place, day, words),
                                         spell(other, day, words))[-3:]
                if found == [0]:
                    same += 1
                    self.assertEqual(here, there)
        self.assertGreater(same, 50)

    def test_a_word_renamed_everywhere_changes_nothing(self):
        asked = questions()
        for seed in range(40):
            chance = random.Random(seed)
            parts, definitions = some_law(chance)
            told = parts + definitions
            old = chance.choice(WORDS)
            new = 500
            if last(*told, rename(old, new)) != [0]:
                continue
            before = asked_of(told, asked)
            after = asked_of(told + [rename(old, new)], asked)
            self.assertEqual([[new if one[0] == 7 and word == old and at else word for at, word in enumerate(answer)]
                              for one, answer in zip(asked, before)], after)
            for words in ([old], [1, old, 2]):
                renamed = [new if word == old else word for word in words]
                self.assertEqual(last(*told, changes(3, words)), last(*told, rename(old, new), changes(3, renamed)))
                self.assertEqual(last(*told, differs(3, 4, 5, words)),
                                 last(*told, rename(old, new), differs(3, 4, 5, renamed)))

    def test_what_no_text_needs_can_go(self):
        gone = 0
        for seed in range(100):
            chance = random.Random(seed)
            parts, definitions = some_law(chance)
            day = chance.choice(DAYS)
            found = last(*parts, *definitions, unused(day))[1:]
            kept = [one for number, one in enumerate(definitions) if number not in found]
            texts = [text(place, day) for place in range(6)]
            gone += len(found)
            self.assertEqual(ask(*parts, *definitions, *texts)[-6:], ask(*parts, *kept, *texts)[-6:])
            self.assertEqual(last(*parts, *kept, unused(day)), [0])
        self.assertGreater(gone, 100)

    def test_hidden_ones_can_go_too(self):
        for seed in range(100):
            chance = random.Random(seed)
            parts, definitions = some_law(chance)
            day = chance.choice(DAYS)
            found = last(*parts, *definitions, hidden(day))[1:]
            kept = [one for number, one in enumerate(definitions) if number not in found]
            asked = [text(place, day) for place in range(6)]
            asked += [spell(place, day, [word]) for place in (0, 5) for word in WORDS]
            asked += [hidden(day)]
            given = ask(*parts, *kept, *asked)[-len(asked):]
            self.assertEqual(ask(*parts, *definitions, *asked)[-len(asked):-1], given[:-1])
            self.assertEqual(given[-1], [0])

    def test_circles_are_what_cannot_be_spelled_out(self):
        for seed in range(100):
            chance = random.Random(seed)
            parts, definitions = some_law(chance)
            day = chance.choice(DAYS)
            told = parts + definitions
            found = last(*told, circles(day))[1:]
            for place in range(6):
                for word in WORDS:
                    meant, spelled = ask(*told, means(place, word, day), spell(place, day, [word]))[-2:]
                    self.assertEqual(spelled == [-7], meant[0] == 1 and meant[1] in found)

    def test_a_law_begun_anew_answers_like_a_new_one(self):
        for seed in range(40):
            chance = random.Random(seed)
            parts, definitions = some_law(chance)
            others, defined = some_law(chance)
            asked = [circles(4), unused(4), hidden(4), text(3, 4), changes(2, [3])]
            self.assertEqual(ask(*others, *defined, begins(), *parts, *definitions, *asked)[-24:],
                             ask(*parts, *definitions, *asked))


class Refused(unittest.TestCase):
    def test_refused_calls_change_nothing(self):
        told = [part(0, [1, 2]), part(1, [1]), define(0, 1, 2, 0, [3] * 20), define(0, 3, 4, 0, [5] * 20),
                define(1, 2, 6, 7, [2]), define(0, 5, 0, 0, [6] * 20)]
        refused = {-2: (text(3, 0), differs(0, 3, 0, [1]), differs(3, 0, 0, [1]), changes(3, [1])),
                   -1: (differs(0, 1, 0, [0]), changes(0, [100000]), changes(0, [1] * 21)),
                   -5: (text(1, 4), text(2, 9), changes(0, [1])),
                   -7: (text(1, 6), changes(1, [2]))}
        asked = [one(day) for day in (0, 4, 6) for one in (circles, unused, hidden)] + [text(1, 0), text(2, 3)]
        asked += [part(0), define(0, 1, 0, 0, [2])]
        expected = ask(*told, *asked)[len(told):]
        for number, calls in refused.items():
            for one in calls:
                given = ask(*told, one, *asked)[len(told):]
                self.assertEqual(given, [[number]] + expected)


class Large(unittest.TestCase):
    def setUp(self):
        self.began = time.monotonic()

    def tearDown(self):
        self.assertLess(time.monotonic() - self.began, 20)

    def test_deep_and_long(self):
        told = [part(above, [1] * 20) for above in range(14)]
        told += [define(0, word, word, 1000 + word, [word + 1] * 20) for word in range(1, 21)]
        asked = [changes(14, [1] * 20), text(14, 20), circles(20), unused(20), hidden(20),
                 differs(14, 0, 20, [1] * 20)] * 4 + [changes(14, [20] * 20)] * 2
        given = ask(*told, *asked)[34:]
        self.assertEqual(len(told + asked), 60)
        self.assertEqual(given[:6], [[-5], [-5], [0], [0], [0], [0]])
        self.assertEqual(given[-1], [2, 20, 1020])

    def test_all_bodies_hold_all_words(self):
        told = [part(above, list(range(1, 21))) for above in range(14)]
        told += [define(0, word, word, 1000 + word, list(range(1, 21))) for word in range(1, 21)]
        asked = [changes(14, list(range(1, 21))), text(14, 20), circles(20), unused(20), hidden(20)] * 5
        given = ask(*told, *asked)[34:]
        self.assertEqual(given[:5], [[-7], [-7], [20] + list(range(20)), [0], [0]])

    def test_a_ladder_with_many_ways(self):
        # Each word by the next two: the ways down double with each step.
        told = [part(0, [1])]
        told += [define(0, word, 0, 0, [word + 1, word + 2] * 10) for word in range(1, 21)]
        asked = [changes(1, [1]), text(1, 0), circles(0), unused(0), hidden(0), text(1, TOP), spell(1, 0, [1])] * 5
        given = ask(*told, *asked)[21:]
        self.assertEqual(given, [[-5], [-5], [0], [0], [0], [-5], [-5]] * 5)

    def test_as_long_as_may_be(self):
        told = [part(0, [1] * 20), define(0, 1, 0, 0, [2] * 10), define(0, 2, 0, 0, [3] * 5)]
        given = ask(*told, *[text(1, day) for day in range(57)])[3:]
        self.assertEqual(given, [[1000] + [3] * 1000] * 57)

    def test_changes_on_forty_days_asked_many_times(self):
        told = [define(0, 1, 0, 0, [2] * 20)]
        told += [define(0, 2, number * 2 + 1, number * 2 + 2, [3] * 19 + [number + 4]) for number in range(19)]
        asked = [changes(0, [1, 1])] * 40
        self.assertLessEqual(len(line(told + asked)), 3000)
        given = ask(*told, *asked)[20:]
        self.assertEqual(given, [[38] + list(range(1, 39))] * 40)


if __name__ == "__main__":
    unittest.main()
