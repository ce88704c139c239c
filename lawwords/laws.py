"""The calls on a law, and what is answered to them."""

from lawwords.meanings import WITHOUT_END, counting_on, definition_at, definitions_at, hidden_on, turning_days
from lawwords.model import Definition, Law, Part
from lawwords.needs import unused_on
from lawwords.spelling import leading_into_circles, spelled_out, too_long

WRONG = -1
NOT_THERE = -2
TAKEN = -3
TOO_MUCH = -5
STANDS_NOWHERE = -6
IN_A_CIRCLE = -7

MOST_WORDS = 20
LAST_WORD = 99999
LAST_DAY = 99999
MOST_PARTS = 15
MOST_DEFINITIONS = 20


def wrong_word(word):
    return word == 0 or word > LAST_WORD


def wrong_words(words):
    return len(words) > MOST_WORDS or any([wrong_word(word) for word in words])


def wrong_end(since, until):
    return until <= since or until > LAST_DAY


def wrong_days(since, until):
    if since > LAST_DAY:
        return True
    return until != WITHOUT_END and wrong_end(since, until)


def stands_somewhere(law, word):
    for part in law.parts:
        if word in part.words:
            return True
    for definition in law.definitions:
        if word == definition.word or word in definition.body:
            return True
    return False


def renamed(words, old, new):
    return [new if word == old else word for word in words]


def counted(found):
    return [len(found)] + found


def spelled_answer(longer):
    if longer is None:
        return [IN_A_CIRCLE]
    if too_long(longer):
        return [TOO_MUCH]
    return counted(longer)


def begins(law, numbers):
    law.begin()
    return [0]


def add_part(law, numbers):
    above = numbers[0]
    words = numbers[1:]
    if above >= len(law.parts):
        return [NOT_THERE]
    if wrong_words(words):
        return [WRONG]
    if len(law.parts) >= MOST_PARTS:
        return [TOO_MUCH]
    law.parts.append(Part(above, words))
    return [len(law.parts) - 1]


def define(law, numbers):
    part = numbers[0]
    word = numbers[1]
    since = numbers[2]
    until = numbers[3]
    body = numbers[4:]
    if part >= len(law.parts):
        return [NOT_THERE]
    if wrong_word(word) or wrong_days(since, until) or len(body) == 0 or wrong_words(body):
        return [WRONG]
    if len(law.definitions) >= MOST_DEFINITIONS:
        return [TOO_MUCH]
    law.definitions.append(Definition(part, word, since, until, body))
    return [len(law.definitions) - 1]


def ends(law, numbers):
    number = numbers[0]
    day = numbers[1]
    if number >= len(law.definitions):
        return [NOT_THERE]
    definition = law.definitions[number]
    if wrong_end(definition.since, day):
        return [WRONG]
    definition.until = day
    return [0]


def rename(law, numbers):
    old = numbers[0]
    new = numbers[1]
    if wrong_word(old) or wrong_word(new):
        return [WRONG]
    if not stands_somewhere(law, old):
        return [STANDS_NOWHERE]
    if stands_somewhere(law, new):
        return [TAKEN]
    for part in law.parts:
        part.words = renamed(part.words, old, new)
    for definition in law.definitions:
        definition.body = renamed(definition.body, old, new)
        if definition.word == old:
            definition.word = new
    return [0]


def means(law, numbers):
    part = numbers[0]
    word = numbers[1]
    day = numbers[2]
    if part >= len(law.parts):
        return [NOT_THERE]
    number = definition_at(law, counting_on(law, day), part, word)
    if number is None:
        return [0]
    definition = law.definitions[number]
    return [1, number, definition.part] + definition.body


def spell(law, numbers):
    part = numbers[0]
    day = numbers[1]
    words = numbers[2:]
    if part >= len(law.parts):
        return [NOT_THERE]
    if wrong_words(words):
        return [WRONG]
    return spelled_answer(spelled_out(law, part, day, words))


def text(law, numbers):
    part = numbers[0]
    day = numbers[1]
    if part >= len(law.parts):
        return [NOT_THERE]
    return spelled_answer(spelled_out(law, part, day, law.parts[part].words))


def circles(law, numbers):
    return counted(leading_into_circles(law, numbers[0]))


def unused(law, numbers):
    return counted(unused_on(law, numbers[0]))


def hidden(law, numbers):
    return counted(hidden_on(law, numbers[0]))


def differs(law, numbers):
    part = numbers[0]
    other = numbers[1]
    day = numbers[2]
    words = numbers[3:]
    if part >= len(law.parts) or other >= len(law.parts):
        return [NOT_THERE]
    if wrong_words(words):
        return [WRONG]
    counting = counting_on(law, day)
    here = definitions_at(law, counting, part, words)
    there = definitions_at(law, counting, other, words)
    return counted([place for place in range(len(words)) if here[place] != there[place]])


def changes(law, numbers):
    part = numbers[0]
    words = numbers[1:]
    if part >= len(law.parts):
        return [NOT_THERE]
    if wrong_words(words):
        return [WRONG]
    days = turning_days(law)
    longer = [spelled_out(law, part, day, words) for day in days]
    # On a day on which it can't be spelled out it has no length, so it isn't too long on that day.
    if any([too_long(one) for one in longer]):
        return [TOO_MUCH]
    if None in longer:
        return [IN_A_CIRCLE]
    return counted([days[at] for at in range(1, len(days)) if longer[at] != longer[at - 1]])


# Each stands at the place that is its number in a list of calls.
CALLS = (begins, add_part, define, ends, rename, means, spell, text, circles, unused, hidden, differs, changes)


def answers(calls):
    law = Law()
    given = []
    at = 0
    while at < len(calls):
        behind = at + 2 + calls[at + 1]
        call = CALLS[calls[at]]
        answer = call(law, calls[at + 2:behind])
        given.append(len(answer))
        given.extend(answer)
        # No call has lists: behind its numbers stands a 0 alone.
        at = behind + 1
    return given
