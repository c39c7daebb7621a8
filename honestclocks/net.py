"""The row of letters on their way, and what comes of a letter that is handed over."""

from honestclocks.knowing import learn, said_by
from honestclocks.parts import Letter

ROOM = 100

ASK = 0
ANSWER = 1

NO_USE = 0
ANSWERED = 1
HEARD = 2


def send(world, letter):
    """Lay a letter at the row's end; it is lost if there's no room."""
    if len(world.letters) < ROOM:
        world.letters.append(letter)


def send_ask(world, node, master, number):
    """Send a node's ask to a master."""
    send(world, Letter(ASK, node, master, number, None))


def hand_over(world, letter):
    """Hand a letter over, and tell what came of it."""
    if letter.kind == ASK:
        return answer_ask(world, letter)
    return hear_answer(world, letter)


def answer_ask(world, letter):
    """The master answers with what it says now."""
    span = said_by(world, world.masters[letter.master])
    send(world, Letter(ANSWER, letter.node, letter.master, letter.number, span))
    return ANSWERED


def hear_answer(world, letter):
    """The node learns what the answer tells, if it runs and waits for it."""
    node = world.nodes[letter.node]
    place = waited_for_at(node, letter)
    if not node.runs or place is None:
        return NO_USE
    learn(world, node, node.waiting.pop(place), letter.span)
    return HEARD


def waited_for_at(node, letter):
    """The place, among what the node waits for, of what the letter answers; None if there's no such."""
    for place, waiting in enumerate(node.waiting):
        if waiting.number == letter.number and waiting.master == letter.master:
            return place
    return None
