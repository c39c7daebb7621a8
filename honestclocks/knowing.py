"""What masters say, and what nodes know by it."""

from honestclocks.parts import Known
from honestclocks.spans import Span, agreed, common, grown, most_passed


def said_by(world, master):
    """The span that a master says the time lies in, now."""
    if master.claim is not None:
        return master.claim
    greatest = world.true_time + master.off
    return Span(greatest - 2 * world.g, greatest)


def known_now(world, node, known):
    """Where the time lies now, by something that the node knew."""
    return grown(known.span, node.clock - known.when, world.w)


def time_by(world, node):
    """The span that the time lies in by a node; None if it's unknown."""
    spans = [known_now(world, node, known) for known in node.known if known is not None]
    if len(spans) <= world.f:
        return None
    return agreed(spans, len(spans) - world.f)


def learn(world, node, waiting, told):
    """The node hears what it waited for: the span that a master told it."""
    # The master spoke at some time since the ask. Nothing may have passed since, so only the greatest moves.
    since_asked = most_passed(node.clock - waiting.since, world.w)
    span = Span(told.least, told.greatest + since_asked)
    before = node.known[waiting.master]
    if before is not None:
        both = common(known_now(world, node, before), span)
        if both is not None:
            span = both
    node.known[waiting.master] = Known(node.clock, span)


def forget(node):
    """The node's memory is as at first: it knows nothing and waits for nothing."""
    node.waiting = []
    node.known = [None] * len(node.known)
