"""Calls written by name, and their answers taken apart again."""

from lawwords.laws import answers

TOP = 4294967295


def call(number, *numbers):
    return [number, len(numbers), *numbers, 0]


def begins():
    return call(0)


def part(above, words=()):
    return call(1, above, *words)


def define(place, word, start, stop, body):
    return call(2, place, word, start, stop, *body)


def ends(definition, day):
    return call(3, definition, day)


def rename(word, other):
    return call(4, word, other)


def means(place, word, day):
    return call(5, place, word, day)


def spell(place, day, words):
    return call(6, place, day, *words)


def text(place, day):
    return call(7, place, day)


def circles(day):
    return call(8, day)


def unused(day):
    return call(9, day)


def hidden(day):
    return call(10, day)


def differs(place, other, day, words):
    return call(11, place, other, day, *words)


def changes(place, words):
    return call(12, place, *words)


def chain(length, times):
    """Words 1 to length, each defined by the next one, written times over."""
    return [define(0, word, 0, 0, [word + 1] * times) for word in range(1, length + 1)]


def line(calls):
    return [number for one in calls for number in one]


def taken_apart(given):
    apart = []
    at = 0
    while at < len(given):
        behind = at + 1 + given[at]
        if behind > len(given):
            raise AssertionError("an answer is shorter than it says")
        apart.append(given[at + 1:behind])
        at = behind
    return apart


def ask(*calls):
    apart = taken_apart(answers(line(calls)))
    if len(apart) != len(calls):
        raise AssertionError("not one answer for each call")
    return apart


def last(*calls):
    return ask(*calls)[-1]
