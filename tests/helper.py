"""Calls written by name, and their answers one list a call."""

from honestclocks.calls import Line, answer_to
from honestclocks.world import answers

NAMES = (
    "begin", "pass", "skew", "lie", "ask", "stamp", "settle", "take", "keep", "lose",
    "stop", "start", "letters", "time", "node", "master", "stamps",
)


def numbers_of(call):
    """A call as (name, numbers, and for pass a list) in the numbers that stand for it."""
    numbers = [NAMES.index(call[0])]
    for part in call[1:]:
        if isinstance(part, list):
            numbers.append(len(part))
            numbers.extend(part)
        else:
            numbers.append(part)
    return numbers


def split_up(result):
    """The answers to each call, from the one list that tells how many each has."""
    parts = []
    place = 0
    while place < len(result):
        end = place + 1 + result[place]
        parts.append(result[place + 1:end])
        place = end
    return parts


def told(*calls):
    """What is answered to each of the calls on a new object."""
    return split_up(answers([number for call in calls for number in numbers_of(call)]))


def last_told(*calls):
    """What is answered to the last of the calls on a new object."""
    return told(*calls)[-1]


def heard(node, master):
    """The calls by which a node hears what a master says, if no letter is on its way."""
    return [("ask", node, master), ("take", 0), ("take", 0)]


def world_after(*calls):
    """The world that the calls leave, for what no call shows or brings about."""
    line = Line()
    for call in calls:
        numbers = numbers_of(call)
        answer_to(line, numbers[0], numbers[1:])
    return line.world


def answer_on(world, *call):
    """What is answered to a call on a world."""
    line = Line()
    line.world = world
    numbers = numbers_of(call)
    return answer_to(line, numbers[0], numbers[1:])


def seen(thing):
    """All that an object holds, in plain values, so that two can be compared."""
    if isinstance(thing, (list, tuple)):
        return [seen(part) for part in thing]
    if hasattr(thing, "__dict__"):
        return {name: seen(part) for name, part in vars(thing).items()}
    return thing
