"""What a world tells of itself, in plain numbers. Nothing here changes anything."""

from honestclocks.knowing import said_by, time_by

# Stands for what isn't there: an unknown time, nothing known of a master, a stamp that isn't past.
NONE_YET = -1


def ends(span):
    """A span's least and greatest."""
    return [span.least, span.greatest]


def letter_shown(letter):
    """A letter's kind, node, master, number; an answer's span too."""
    shown = [letter.kind, letter.node, letter.master, letter.number]
    if letter.span is not None:
        shown.extend(ends(letter.span))
    return shown


def letters_shown(world):
    """How many letters are on their way, and each."""
    shown = [len(world.letters)]
    for letter in world.letters:
        shown.extend(letter_shown(letter))
    return shown


def time_shown(world, node):
    """Between what the time lies by a node."""
    span = time_by(world, node)
    if span is None:
        return [NONE_YET, NONE_YET]
    return ends(span)


def known_shown(known):
    """When something of a master was known, and between what the time was then."""
    if known is None:
        return [NONE_YET, NONE_YET, NONE_YET]
    return [known.when] + ends(known.span)


def node_shown(node):
    """All that a node has, on its disk and in its memory."""
    shown = [1 if node.runs else 0, node.clock, node.last_stamp, node.asked, len(node.waiting)]
    for waiting in node.waiting:
        shown.extend([waiting.number, waiting.master, waiting.since])
    for known in node.known:
        shown.extend(known_shown(known))
    return shown


def master_shown(world, master):
    """Whether a master ever lied, and what it says now."""
    return [1 if master.ever_lied else 0] + ends(said_by(world, master))


def stamp_shown(stamp):
    """A stamp's node, value, and its two events."""
    past = NONE_YET if stamp.past is None else stamp.past
    return [stamp.node, stamp.value, stamp.given, past]


def stamps_shown(world):
    """How many stamps were given, and each."""
    shown = [len(world.stamps)]
    for stamp in world.stamps:
        shown.extend(stamp_shown(stamp))
    return shown
