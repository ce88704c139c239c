"""Which definition a word has at a part, on a day."""

WITHOUT_END = 0


def in_force(definition, day):
    if day < definition.since:
        return False
    return definition.until == WITHOUT_END or day < definition.until


def numbers_in_force(law, day):
    return [number for number, definition in enumerate(law.definitions) if in_force(definition, day)]


# Found once for a day, so that a look-up need not go through all definitions again.
# It has for each part and word the number of the definition that counts among those for that very part.
def counting_on(law, day):
    counting = {}
    for number in numbers_in_force(law, day):
        definition = law.definitions[number]
        place = (definition.part, definition.word)
        rival = counting.get(place)
        # The rival was told earlier, so it gives way on the same day too.
        if rival is None or law.definitions[rival].since <= definition.since:
            counting[place] = number
    return counting


def definition_at(law, counting, part, word):
    here = part
    while here is not None:
        number = counting.get((here, word))
        if number is not None:
            return number
        here = law.parts[here].above
    return None


def definitions_at(law, counting, part, words):
    return [definition_at(law, counting, part, word) for word in words]


# The words of a body mean what they mean at the part for which its definition is, wherever that is used.
def definitions_in_body(law, counting, number):
    definition = law.definitions[number]
    return definitions_at(law, counting, definition.part, definition.body)


def is_hidden(law, counting, number):
    definition = law.definitions[number]
    return definition_at(law, counting, definition.part, definition.word) != number


def hidden_on(law, day):
    counting = counting_on(law, day)
    return [number for number in numbers_in_force(law, day) if is_hidden(law, counting, number)]


# From each of these days to the next one, and behind the last, the same definitions are in force.
def turning_days(law):
    days = [0]
    for definition in law.definitions:
        days.append(definition.since)
        if definition.until != WITHOUT_END:
            days.append(definition.until)
    return sorted(set(days))
