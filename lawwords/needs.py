"""Which definitions the parts' texts need, on a day."""

from lawwords.meanings import counting_on, definitions_at, definitions_in_body, numbers_in_force


def definitions_in_texts(law, counting):
    found = []
    for number, part in enumerate(law.parts):
        found.extend(definitions_at(law, counting, number, part.words))
    return found


def needed_on(law, day):
    counting = counting_on(law, day)
    needed = {}
    waiting = definitions_in_texts(law, counting)
    while waiting:
        number = waiting.pop()
        # Bodies may run in a circle: what is needed already is not gone into again.
        if number is not None and number not in needed:
            needed[number] = True
            waiting.extend(definitions_in_body(law, counting, number))
    return needed


def unused_on(law, day):
    needed = needed_on(law, day)
    return [number for number in numbers_in_force(law, day) if number not in needed]
