"""The calls on a world. Each is handed its numbers in a list, and gives back its answer as a list."""

from honestclocks.knowing import forget, time_by
from honestclocks.net import hand_over, send_ask
from honestclocks.parts import Stamp, Waiting, World
from honestclocks.showing import letters_shown, master_shown, node_shown, stamps_shown, time_shown
from honestclocks.spans import Span

DONE = 0
NOT_FITTING = -1
SO_ALREADY = -2
HAS_STOPPED = -3
TIME_UNKNOWN = -6
NOT_YET_PAST = -7
NO_WORLD = -9


class Line:
    """The calls' one object: its world is None till one is begun."""

    def __init__(self):
        self.world = None


def there(things, place):
    """Whether the list has such a place."""
    return 0 <= place < len(things)


def begin(line, handed):
    """Begin a world as at first, in the place of the one that was there."""
    g = handed[0]
    w = handed[1]
    f = handed[2]
    masters = handed[3]
    nodes = handed[4]
    if g > 100 or w > 200 or not 1 <= masters <= 5 or f >= masters or not 1 <= nodes <= 3:
        return [NOT_FITTING]
    line.world = World(g, w, f, masters, nodes)
    return [DONE]


def goes_right(world, d, step):
    """Whether a clock may go on by the step while d passes in truth."""
    return d * (1000 - world.w) <= 1000 * step <= d * (1000 + world.w)


def pass_time(world, handed):
    """Time passes, and each clock goes on by its number."""
    d = handed[0]
    # Between d and the steps stands how many steps there are.
    steps = handed[2:]
    if d > 1000 or len(steps) != len(world.nodes):
        return [NOT_FITTING]
    if not all([goes_right(world, d, step) for step in steps]):
        return [NOT_FITTING]
    world.true_time = world.true_time + d
    for node, step in zip(world.nodes, steps):
        node.clock = node.clock + step
    return [world.true_time]


def skew(world, handed):
    """A master is off by a number, and doesn't lie."""
    off = handed[1]
    if not there(world.masters, handed[0]) or off > 2 * world.g:
        return [NOT_FITTING]
    master = world.masters[handed[0]]
    master.off = off
    master.claim = None
    return [DONE]


def lie(world, handed):
    """A master lies: it says a span whatever the time is."""
    least = handed[1]
    greatest = handed[2]
    if not there(world.masters, handed[0]) or greatest < least:
        return [NOT_FITTING]
    master = world.masters[handed[0]]
    master.claim = Span(least, greatest)
    master.ever_lied = True
    return [DONE]


def ask(world, handed):
    """A node asks a master, and waits for its answer."""
    if not there(world.nodes, handed[0]) or not there(world.masters, handed[1]):
        return [NOT_FITTING]
    node = world.nodes[handed[0]]
    if not node.runs:
        return [HAS_STOPPED]
    node.asked = node.asked + 1
    node.waiting.append(Waiting(node.asked, handed[1], node.clock))
    send_ask(world, handed[0], handed[1], node.asked)
    return [node.asked]


def new_event(world):
    """Count one more event, and tell its number."""
    number = world.events
    world.events = number + 1
    return number


def give_stamp(world, handed):
    """A node gives a stamp."""
    if not there(world.nodes, handed[0]):
        return [NOT_FITTING]
    node = world.nodes[handed[0]]
    if not node.runs:
        return [HAS_STOPPED]
    span = time_by(world, node)
    if span is None:
        return [TIME_UNKNOWN]
    node.last_stamp = max(span.greatest, node.last_stamp + 1)
    world.stamps.append(Stamp(handed[0], node.last_stamp, new_event(world)))
    return [len(world.stamps) - 1, node.last_stamp]


def settle(world, handed):
    """A stamp is past, if that's sure to its node."""
    if not there(world.stamps, handed[0]):
        return [NOT_FITTING]
    stamp = world.stamps[handed[0]]
    node = world.nodes[stamp.node]
    if not node.runs:
        return [HAS_STOPPED]
    if stamp.past is not None:
        return [SO_ALREADY]
    span = time_by(world, node)
    if span is None:
        return [TIME_UNKNOWN]
    if span.least <= stamp.value:
        return [NOT_YET_PAST]
    stamp.past = new_event(world)
    return [stamp.value]


def take(world, handed):
    """A letter is taken out of the row, then handed over."""
    if not there(world.letters, handed[0]):
        return [NOT_FITTING]
    # Out first: what it brings about may need its room.
    letter = world.letters.pop(handed[0])
    return [hand_over(world, letter)]


def keep(world, handed):
    """A letter is handed over and lies on."""
    if not there(world.letters, handed[0]):
        return [NOT_FITTING]
    return [hand_over(world, world.letters[handed[0]])]


def lose(world, handed):
    """A letter is thrown away."""
    if not there(world.letters, handed[0]):
        return [NOT_FITTING]
    world.letters.pop(handed[0])
    return [DONE]


def stop(world, handed):
    """A node stops. Its memory is gone only once it starts, so that it can be looked at till then."""
    if not there(world.nodes, handed[0]):
        return [NOT_FITTING]
    node = world.nodes[handed[0]]
    if not node.runs:
        return [SO_ALREADY]
    node.runs = False
    return [DONE]


def start(world, handed):
    """A stopped node runs again, with nothing but what is on its disk."""
    if not there(world.nodes, handed[0]):
        return [NOT_FITTING]
    node = world.nodes[handed[0]]
    if node.runs:
        return [SO_ALREADY]
    node.runs = True
    forget(node)
    return [DONE]


def show_letters(world, handed):
    """Tell the letters that are on their way."""
    return letters_shown(world)


def show_time(world, handed):
    """Tell the time by a node, be it stopped or not."""
    if not there(world.nodes, handed[0]):
        return [NOT_FITTING]
    return time_shown(world, world.nodes[handed[0]])


def show_node(world, handed):
    """Tell all of a node."""
    if not there(world.nodes, handed[0]):
        return [NOT_FITTING]
    return node_shown(world.nodes[handed[0]])


def show_master(world, handed):
    """Tell what a master says."""
    if not there(world.masters, handed[0]):
        return [NOT_FITTING]
    return master_shown(world, world.masters[handed[0]])


def show_stamps(world, handed):
    """Tell the stamps that were given."""
    return stamps_shown(world)


BEGIN = 0

# By the numbers that the calls have; begin isn't among them, since it needs no world.
ON_A_WORLD = {
    1: pass_time,
    2: skew,
    3: lie,
    4: ask,
    5: give_stamp,
    6: settle,
    7: take,
    8: keep,
    9: lose,
    10: stop,
    11: start,
    12: show_letters,
    13: show_time,
    14: show_node,
    15: show_master,
    16: show_stamps,
}


def answer_to(line, call, handed):
    """The answer to a call, by its number and what it is handed."""
    if call == BEGIN:
        return begin(line, handed)
    if line.world is None:
        return [NO_WORLD]
    return ON_A_WORLD[call](line.world, handed)
