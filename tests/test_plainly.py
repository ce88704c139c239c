"""Many small laws, answered a second time by following the document word by word."""

import random
import unittest

from tests.helper import ask, call


class TooLong(Exception):
    pass


class Circle(Exception):
    pass


class Plain:
    """Slow and direct: nothing is found ahead of time, circles by going through them."""

    def __init__(self):
        self.begins()

    def begins(self):
        self.above = [None]
        self.texts = [[]]
        self.told = []
        return [0]

    def bad(self, words):
        return len(words) > 20 or any(not 1 <= word <= 99999 for word in words)

    def part(self, above, *words):
        if above not in range(len(self.above)):
            return [-2]
        if self.bad(words):
            return [-1]
        if len(self.above) == 15:
            return [-5]
        self.above.append(above)
        self.texts.append(list(words))
        return [len(self.above) - 1]

    def define(self, part, word, start, stop, *body):
        if part not in range(len(self.above)):
            return [-2]
        if self.bad([word]) or self.bad(body) or not body or max(start, stop) > 99999 or 0 < stop <= start:
            return [-1]
        if stop == 0:
            stop = 10 ** 12
        if len(self.told) == 20:
            return [-5]
        self.told.append([part, word, start, stop, list(body)])
        return [len(self.told) - 1]

    def ends(self, definition, day):
        if definition not in range(len(self.told)):
            return [-2]
        if not self.told[definition][2] < day <= 99999:
            return [-1]
        self.told[definition][3] = day
        return [0]

    def all_words(self):
        found = {word for text in self.texts for word in text}
        for one in self.told:
            found |= {one[1]} | set(one[4])
        return found

    def rename(self, word, other):
        if self.bad([word, other]):
            return [-1]
        if word not in self.all_words():
            return [-6]
        if other in self.all_words():
            return [-3]
        new = {word: other}
        self.texts = [[new.get(one, one) for one in text] for text in self.texts]
        self.told = [[part, new.get(defined, defined), start, stop, [new.get(one, one) for one in body]]
                     for part, defined, start, stop, body in self.told]
        return [0]

    def found(self, part, word, day):
        while part is not None:
            here = [(one[2], number) for number, one in enumerate(self.told)
                    if one[0] == part and one[1] == word and one[2] <= day < one[3]]
            if here:
                return max(here)[1]
            part = self.above[part]
        return None

    def means(self, part, word, day):
        if part not in range(len(self.above)):
            return [-2]
        number = self.found(part, word, day)
        if number is None:
            return [0]
        return [1, number, self.told[number][0]] + self.told[number][4]

    def look_for_circles(self, part, day, words, way):
        for word in set(words):
            number = self.found(part, word, day)
            if number is not None:
                if number in way:
                    raise Circle()
                self.look_for_circles(self.told[number][0], day, self.told[number][4], way + [number])

    def write(self, part, day, words, out):
        for word in words:
            number = self.found(part, word, day)
            if number is None:
                out.append(word)
                if len(out) > 1000:
                    raise TooLong()
            else:
                self.write(self.told[number][0], day, self.told[number][4], out)

    def spell(self, part, day, *words):
        if part not in range(len(self.above)):
            return [-2]
        if self.bad(words):
            return [-1]
        out = []
        try:
            self.look_for_circles(part, day, words, [])
            self.write(part, day, words, out)
        except Circle:
            return [-7]
        except TooLong:
            return [-5]
        return [len(out)] + out

    def text(self, part, day):
        return self.spell(part, day, *self.texts[part]) if part < len(self.texts) else [-2]

    def on(self, day):
        return [number for number, one in enumerate(self.told) if one[2] <= day < one[3]]

    def in_circle(self, number, day):
        try:
            self.look_for_circles(self.told[number][0], day, self.told[number][4], [number])
        except Circle:
            return True
        return False

    def circles(self, day):
        found = [number for number in self.on(day) if self.in_circle(number, day)]
        return [len(found)] + found

    def need(self, part, day, words, needed):
        for number in {self.found(part, word, day) for word in words} - {None} - needed:
            needed.add(number)
            self.need(self.told[number][0], day, self.told[number][4], needed)

    def unused(self, day):
        needed = set()
        for part, words in enumerate(self.texts):
            self.need(part, day, words, needed)
        found = sorted(set(self.on(day)) - needed)
        return [len(found)] + found

    def hidden(self, day):
        found = [number for number in self.on(day) if self.found(*self.told[number][:2], day) != number]
        return [len(found)] + found

    def differs(self, part, other, day, *words):
        if max(part, other) >= len(self.above):
            return [-2]
        if self.bad(words):
            return [-1]
        found = [place for place, word in enumerate(words)
                 if self.found(part, word, day) != self.found(other, word, day)]
        return [len(found)] + found

    def changes(self, part, *words):
        behind = max([1] + [day for one in self.told for day in one[2:4] if day < 10 ** 12]) + 2
        seen = [self.spell(part, day, *words) for day in range(behind)]
        for refusal in (-2, -1, -5, -7):
            if [refusal] in seen:
                return [refusal]
        found = [day for day in range(1, behind) if seen[day] != seen[day - 1]]
        return [len(found)] + found

    def answer(self, one):
        numbers = one[2:-1]
        calls = (self.begins, self.part, self.define, self.ends, self.rename, self.means, self.spell, self.text,
                 self.circles, self.unused, self.hidden, self.differs, self.changes)
        return calls[one[0]](*numbers)


def some_words(chance, most, words):
    return [chance.randrange(1, words + 1) for number in range(chance.randrange(most + 1))]


def some_call(chance, kind, words, days):
    place = chance.randrange(5)
    word = chance.randrange(1, words + 1)
    day = chance.randrange(days)
    if kind == 0:
        return call(0)
    if kind == 1:
        return call(1, place, *some_words(chance, 3, words))
    if kind == 2:
        stop = chance.choice((0, 0, day + chance.randrange(days)))
        return call(2, place, word, day, stop, *some_words(chance, 4, words))
    if kind == 3:
        return call(3, chance.randrange(10), day)
    if kind == 4:
        return call(4, word, chance.randrange(words + 5))
    if kind == 5:
        return call(5, place, word, day)
    if kind == 6:
        return call(6, place, day, *some_words(chance, 5, words))
    if kind == 7:
        return call(7, place, day)
    if kind < 11:
        return call(kind, day)
    if kind == 11:
        return call(11, place, chance.randrange(5), day, *some_words(chance, 5, words))
    return call(12, place, *some_words(chance, 3, words))


# A law that begins anew often never grows.
WILD = (0,) + (1, 1, 1, 1, 2, 2, 2, 2, 2, 2, 2, 3, 4, 5, 6, 6, 7, 7, 8, 9, 10, 11, 11, 12, 12) * 4


def wild_calls(chance, words, days):
    return [some_call(chance, chance.choice(WILD), words, days) for number in range(60)]


def full_definition(chance, words, days):
    word = chance.randrange(1, words)
    day = chance.choice((0, chance.randrange(days)))
    stop = chance.choice((0, day + 1 + chance.randrange(days)))
    # Mostly by words a little behind the defined one, since else nearly everything leads into a circle.
    first = word + 1 if chance.randrange(10) else max(1, word - 2)
    body = [chance.randrange(first, first + 3) for number in range(chance.randrange(1, 4))]
    times = chance.choice((1, 6))
    return call(2, chance.choice((0, 0, 0, 1, 2, 3, 4)), word, day, stop, *(body * times))


def full_calls(chance, words, days):
    """A law with many parts and definitions, and then questions, between which it's changed a little."""
    calls = [call(1, chance.randrange(number), *some_words(chance, 4, words)) for number in range(1, 7)]
    calls += [full_definition(chance, words, days) for number in range(18)]
    kinds = (3, 4, 5, 6, 6, 7, 7, 8, 9, 10, 11, 12, 12)
    return calls + [some_call(chance, chance.choice(kinds), words, days) for number in range(36)]


class Plainly(unittest.TestCase):
    def compare(self, seed, calls):
        plain = Plain()
        expected = [plain.answer(one) for one in calls]
        self.assertEqual(ask(*calls), expected, (seed, calls))
        return [(one[0], answer[0]) for one, answer in zip(calls, expected)]

    def test_wild_calls_with_few_words(self):
        for seed in range(150):
            self.compare(seed, wild_calls(random.Random(seed), 6, 6))

    def test_wild_calls_with_more_words_and_days(self):
        for seed in range(150):
            self.compare(seed, wild_calls(random.Random(seed), 25, 12))

    def test_full_laws(self):
        met = []
        for seed in range(300):
            met += self.compare(seed, full_calls(random.Random(seed), 4 + seed % 12, 3 + seed % 9))
        # Else too little would be compared.
        for one in ((6, -7), (6, -5), (7, -7), (7, -5), (12, -7), (12, -5)):
            self.assertGreater(met.count(one), 4, one)
        for kind in range(6, 13):
            self.assertGreater(len([one for one in met if one[0] == kind and one[1] > 1]), 50, kind)


if __name__ == "__main__":
    unittest.main()
