"""What a world is made of."""


class Master:
    """One that knows the time up to so much, or lies."""

    def __init__(self, off):
        self.off = off
        # The span it tells while it lies; None while it doesn't.
        self.claim = None
        self.ever_lied = False


class Waiting:
    """An ask of a node that it has not heard an answer to."""

    def __init__(self, number, master, since):
        self.number = number
        self.master = master
        self.since = since


class Known:
    """Between what the time was, when the node's clock stood so."""

    def __init__(self, when, span):
        self.when = when
        self.span = span


class Node:
    """One that wants to know the time. For each master it has a Known, or None."""

    def __init__(self, masters):
        self.runs = True
        self.clock = 0
        self.last_stamp = 0
        self.asked = 0
        self.waiting = []
        self.known = [None] * masters


class Letter:
    """An ask (its span is None) or an answer. Node and master are told by their numbers."""

    def __init__(self, kind, node, master, number, span):
        self.kind = kind
        self.node = node
        self.master = master
        self.number = number
        self.span = span


class Stamp:
    """A number in time's order. The event at which it was past is None as long as it isn't."""

    def __init__(self, node, value, given):
        self.node = node
        self.value = value
        self.given = given
        self.past = None


class World:
    """A world as at first."""

    def __init__(self, g, w, f, masters, nodes):
        self.g = g
        self.w = w
        self.f = f
        self.true_time = 2 * g
        self.masters = [Master(g) for place in range(masters)]
        self.nodes = [Node(masters) for place in range(nodes)]
        self.letters = []
        self.stamps = []
        # How many events there were, which is the next one's number.
        self.events = 0
