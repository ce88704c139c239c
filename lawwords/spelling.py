"""Texts and bodies spelled out, on a day."""

from lawwords.meanings import counting_on, definitions_at, definitions_in_body, numbers_in_force

MOST_SPELLED = 1000


def all_spelled(links, spelled):
    return all([link is None or link in spelled for link in links])


# What is too long is cut one word behind the limit: it still shows as too long,
# and bodies that repeat words many times over don't grow without bound.
def put_together(words, links, spelled):
    longer = []
    for word, link in zip(words, links):
        if link is None:
            longer.append(word)
        else:
            longer.extend(spelled[link])
        if len(longer) > MOST_SPELLED:
            return longer[:MOST_SPELLED + 1]
    return longer


def links_of_bodies(law, counting, numbers):
    links = {}
    for number in numbers:
        links[number] = definitions_in_body(law, counting, number)
    return links


# A body is spelled out once all the definitions that it leads to are.
# So those that lead into a circle, and they alone, never come to be among the spelled.
def spelled_bodies(law, counting, numbers):
    links = links_of_bodies(law, counting, numbers)
    spelled = {}
    waiting = numbers
    ready = [number for number in waiting if all_spelled(links[number], spelled)]
    while ready:
        for number in ready:
            spelled[number] = put_together(law.definitions[number].body, links[number], spelled)
        waiting = [number for number in waiting if number not in spelled]
        ready = [number for number in waiting if all_spelled(links[number], spelled)]
    return spelled


def leading_into_circles(law, day):
    numbers = numbers_in_force(law, day)
    spelled = spelled_bodies(law, counting_on(law, day), numbers)
    return [number for number in numbers if number not in spelled]


# None if it can't be spelled out; one word more than the most there may be if it is too long.
def spelled_out(law, part, day, words):
    counting = counting_on(law, day)
    spelled = spelled_bodies(law, counting, numbers_in_force(law, day))
    links = definitions_at(law, counting, part, words)
    if not all_spelled(links, spelled):
        return None
    return put_together(words, links, spelled)


def too_long(longer):
    return longer is not None and len(longer) > MOST_SPELLED
