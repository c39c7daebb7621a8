"""Whole lists of calls: against the document's words written down once more in another way, and what they are for."""

import random
import unittest
from fractions import Fraction
from math import ceil, floor

from helper import NAMES, answer_on, heard, numbers_of, split_up, told, world_after
from honestclocks.world import answers


class Model:
    """The document's words, with exact fractions and by walking numbers one by one."""

    def __init__(self):
        self.there = False

    def answer(self, name, *handed):
        if name == "begin":
            return self.begin(*handed)
        return getattr(self, name + "_")(*handed) if self.there else [-9]

    def begin(self, g, w, f, masters, nodes):
        if g > 100 or w > 200 or masters not in (1, 2, 3, 4, 5) or f >= masters or nodes not in (1, 2, 3):
            return [-1]
        self.there, self.g, self.w, self.f, self.true = True, g, w, f, 2 * g
        self.off, self.lies, self.lied = [g] * masters, {}, set()
        self.clocks, self.last, self.asked, self.stopped = [0] * nodes, [0] * nodes, [0] * nodes, set()
        self.waits, self.known = [{} for _ in range(nodes)], [{} for _ in range(nodes)]
        self.row, self.given, self.past, self.events = [], [], {}, 0
        return [0]

    def no_node(self, node):
        return node >= len(self.clocks)

    def no_master(self, master):
        return master >= len(self.off)

    def says(self, master):
        upper = self.true + self.off[master]
        return self.lies.get(master, (upper - 2 * self.g, upper))

    def most(self, node, when):
        return floor(Fraction(1000 * (self.clocks[node] - when), 1000 - self.w))

    def now(self, node, master):
        when, least, greatest = self.known[node][master]
        passed = ceil(Fraction(1000 * (self.clocks[node] - when), 1000 + self.w))
        return range(least + passed, greatest + self.most(node, when) + 1)

    def span(self, node):
        spans = [self.now(node, master) for master in self.known[node]]
        enough = len(spans) - self.f
        if enough <= 0:
            return None
        numbers = [n for n in sorted(set().union(*spans)) if sum(n in span for span in spans) >= enough]
        return (numbers[0], numbers[-1]) if numbers else None

    def pass_(self, d, on):
        if d > 1000 or len(on) != len(self.clocks) or any(1000 * abs(a - d) > d * self.w for a in on):
            return [-1]
        self.true += d
        self.clocks = [clock + a for clock, a in zip(self.clocks, on)]
        return [self.true]

    def skew_(self, master, off):
        if self.no_master(master) or off > 2 * self.g:
            return [-1]
        self.off[master] = off
        self.lies.pop(master, None)
        return [0]

    def lie_(self, master, a, b):
        if self.no_master(master) or b < a:
            return [-1]
        self.lies[master] = (a, b)
        self.lied.add(master)
        return [0]

    def ask_(self, node, master):
        if self.no_node(node) or self.no_master(master):
            return [-1]
        if node in self.stopped:
            return [-3]
        self.asked[node] += 1
        self.waits[node][self.asked[node], master] = self.clocks[node]
        self.row = (self.row + [(0, node, master, self.asked[node])])[:100]
        return [self.asked[node]]

    def stamp_(self, node):
        if self.no_node(node):
            return [-1]
        if node in self.stopped:
            return [-3]
        if self.span(node) is None:
            return [-6]
        self.last[node] = max(self.last[node] + 1, self.span(node)[1])
        self.given.append((node, self.last[node], self.events))
        self.events += 1
        return [len(self.given) - 1, self.last[node]]

    def settle_(self, stamp):
        if stamp >= len(self.given):
            return [-1]
        node, value, _ = self.given[stamp]
        if node in self.stopped:
            return [-3]
        if stamp in self.past:
            return [-2]
        if self.span(node) is None:
            return [-6]
        if self.span(node)[0] <= value:
            return [-7]
        self.past[stamp] = self.events
        self.events += 1
        return [value]

    def hand_over(self, kind, node, master, number, *span):
        if kind == 0:
            self.row = (self.row + [(1, node, master, number) + self.says(master)])[:100]
            return [1]
        if node in self.stopped or (number, master) not in self.waits[node]:
            return [0]
        new = range(span[0], span[1] + self.most(node, self.waits[node].pop((number, master))) + 1)
        if master in self.known[node]:
            old = self.now(node, master)
            new = [n for n in new if n in old] or new
        self.known[node][master] = (self.clocks[node], new[0], new[-1])
        return [2]

    def take_(self, letter):
        return self.hand_over(*self.row.pop(letter)) if letter < len(self.row) else [-1]

    def keep_(self, letter):
        return self.hand_over(*self.row[letter]) if letter < len(self.row) else [-1]

    def lose_(self, letter):
        if letter >= len(self.row):
            return [-1]
        self.row.pop(letter)
        return [0]

    def stop_(self, node):
        if self.no_node(node):
            return [-1]
        if node in self.stopped:
            return [-2]
        self.stopped.add(node)
        return [0]

    def start_(self, node):
        if self.no_node(node):
            return [-1]
        if node not in self.stopped:
            return [-2]
        self.stopped.remove(node)
        self.waits[node], self.known[node] = {}, {}
        return [0]

    def letters_(self):
        return [len(self.row)] + [number for letter in self.row for number in letter]

    def time_(self, node):
        return [-1] if self.no_node(node) else list(self.span(node) or (-1, -1))

    def node_(self, node):
        if self.no_node(node):
            return [-1]
        runs = 0 if node in self.stopped else 1
        waits = [n for ask, when in self.waits[node].items() for n in (*ask, when)]
        known = [n for master in range(len(self.off)) for n in self.known[node].get(master, (-1, -1, -1))]
        return [runs, self.clocks[node], self.last[node], self.asked[node], len(waits) // 3] + waits + known

    def master_(self, master):
        return [-1] if self.no_master(master) else [1 if master in self.lied else 0, *self.says(master)]

    def stamps_(self):
        each = [n for stamp, row in enumerate(self.given) for n in (*row, self.past.get(stamp, -1))]
        return [len(self.given)] + each


def by_model(calls):
    model = Model()
    return [model.answer(*call) for call in calls]


class Chance:
    """Calls by chance, the same for the same seed."""

    WEIGHTS = (0, 10, 3, 4, 17, 10, 10, 30, 6, 1, 1, 3, 2, 5, 4, 2, 2)

    def __init__(self, seed, wild):
        self.random = random.Random(seed)
        self.wild = wild

    def up_to(self, most):
        """From 0 to the most; in wild lists at times something beyond."""
        if self.wild and self.random.random() < 0.05:
            return most + 1
        return self.random.randint(0, most)

    def begin(self):
        masters = self.random.randint(1, 5)
        self.f = min(self.random.randint(0, masters - 1), self.random.randint(0, 2))
        self.masters, self.nodes = masters, self.random.randint(1, 3)
        self.g, self.w = self.random.choice((0, 1, 5, 30)), self.random.choice((0, 1, 50, 150, 200))
        return ("begin", self.g, self.w, self.f, masters, self.nodes)

    def going_on(self):
        d = self.random.choice((0, 1, 2, 3, 5, 10, 50) if self.wild else (1, 10, 50, 200))
        least, greatest = ceil(Fraction(d * (1000 - self.w), 1000)), floor(Fraction(d * (1000 + self.w), 1000))
        on = [self.random.randint(least, greatest) for _ in range(self.nodes)]
        if self.wild and self.random.random() < 0.1:
            on[self.random.randrange(self.nodes)] += self.random.choice((1, 2))
        return ("pass", d, on)

    def lying(self):
        # In lists that aren't wild the masters from f on never lie.
        most = self.masters if self.wild else self.f
        if most == 0:
            return ("letters",)
        a = self.random.randint(0, 150)
        return ("lie", self.random.randrange(most), a, max(0, a + self.random.randint(-1 if self.wild else 0, 60)))

    def call(self):
        name = self.random.choices(NAMES, self.WEIGHTS)[0]
        node, master = self.up_to(self.nodes - 1), self.up_to(self.masters - 1)
        if name == "pass":
            return self.going_on()
        if name == "lie":
            return self.lying()
        if name == "skew":
            return (name, master, self.up_to(2 * self.g))
        if name == "ask":
            return (name, node, master)
        if name in ("stamp", "stop", "start", "time", "node"):
            return (name, node)
        if name == "master":
            return (name, master)
        if name in ("settle", "take", "keep", "lose"):
            return (name, self.random.choice((0, 0, 0, 0, 0, 1, 1, 2, 4)))
        return (name,)

    def calls(self):
        """A hundred calls; in wild lists some without a world, and some with another."""
        self.masters, self.nodes, self.g, self.w, self.f = 1, 1, 0, 0, 0
        calls = [self.call() for _ in range(2)] if self.wild and self.random.random() < 0.2 else []
        calls.append(self.begin())
        while len(calls) < 100:
            again = self.wild and self.random.random() < 0.005
            calls.append(self.begin() if again else self.call())
        return calls


class AgainstTheModel(unittest.TestCase):
    def test_lists_by_chance(self):
        met = set()
        for seed in range(400):
            calls = Chance(seed, True).calls()
            expected = by_model(calls)
            self.assertEqual(told(*calls), expected, seed)
            refused = [pair for pair in zip(calls, expected) if len(pair[1]) == 1 and pair[1][0] < 0]
            met.update((call[0], answer[0]) for call, answer in refused)
        # Each refusal that the document tells of the calls came up, so that the lists are of use.
        refusals = {
            "pass": (-1,), "skew": (-1,), "lie": (-1,), "ask": (-1, -3), "stamp": (-1, -3, -6),
            "settle": (-1, -3, -2, -6, -7), "take": (-1,), "keep": (-1,), "lose": (-1,), "stop": (-1, -2),
            "start": (-1, -2), "time": (-1,), "node": (-1,), "master": (-1,),
        }
        self.assertLessEqual({(name, number) for name, each in refusals.items() for number in each}, met)
        self.assertTrue(any(number == -9 for _, number in met))


class WhatItStandsFor(unittest.TestCase):
    """Where not more than f masters ever lie."""

    def lists(self):
        return [Chance(seed, False).calls() for seed in range(300)]

    def test_the_time_is_never_outside(self):
        looks = 0
        for calls in self.lists():
            world = world_after(calls[0])
            for call in calls[1:]:
                answer_on(world, *call)
                true_time = answer_on(world, "pass", 0, [0] * len(world.nodes))[0]
                for node in range(len(world.nodes)):
                    least, greatest = answer_on(world, "time", node)
                    if least != -1:
                        self.assertTrue(least <= true_time <= greatest, (calls, node))
                        looks += 1
        self.assertGreater(looks, 1000)

    def test_stamps_are_in_times_order(self):
        pairs = 0
        for calls in self.lists():
            row = told(*calls[:99], ("stamps",))[-1][1:]
            stamps = [row[place:place + 4] for place in range(0, len(row), 4)]
            for _, value, _, past in stamps:
                later = [other for _, other, given, _ in stamps if past != -1 and given > past]
                self.assertTrue(all(other > value for other in later), calls)
                pairs += len(later)
        self.assertGreater(pairs, 100)


class AHundredCalls(unittest.TestCase):
    """All seventeen kinds in one list."""

    def calls(self):
        calls = [("letters",), ("stamps",), ("begin", 5, 200, 1, 3, 2), ("begin", 5, 200, 3, 3, 2), ("skew", 1, 0)]
        calls += [("lie", 2, 90, 99), *heard(0, 0), *heard(0, 1), *heard(0, 2), *heard(1, 0), *heard(1, 2)]
        for _ in range(4):
            calls += [("pass", 5, [4, 6]), ("stamp", 0), ("time", 0), ("ask", 1, 1), ("keep", 0), ("take", 1)]
            calls += [("lose", 0), ("stamp", 1), ("node", 1)]
        calls += [("stop", 0), ("start", 0), ("stop", 1), ("ask", 0, 1), ("take", 0), ("letters",), ("take", 0)]
        calls += [("master", 2), ("skew", 2, 10), ("master", 2), ("pass", 100, [100, 100]), ("time", 1), ("time", 0)]
        calls += [("settle", stamp) for stamp in range(10)] + [("start", 1), ("time", 1), ("node", 1), *heard(1, 0)]
        calls += [*heard(1, 1), ("time", 1), ("settle", 1), ("settle", 1), ("stamp", 1), ("node", 1)]
        return calls + [("stamps",)] * (100 - len(calls))

    def numbers(self):
        return [number for call in self.calls() for number in numbers_of(call)]

    def test_all_kinds_are_in_it(self):
        calls = self.calls()
        self.assertEqual(len(calls), 100)
        self.assertEqual({call[0] for call in calls}, set(NAMES))

    def test_what_is_answered(self):
        result = split_up(answers(self.numbers()))
        self.assertEqual(len(result), 100)
        self.assertEqual(result, by_model(self.calls()))

    def test_what_is_handed_in_is_as_it_was(self):
        numbers = self.numbers()
        answers(numbers)
        self.assertEqual(numbers, self.numbers())

    def test_two_runs_give_the_same(self):
        numbers = self.numbers()
        first = answers(numbers)
        kept = list(first)
        self.assertEqual(answers(numbers), kept)
        self.assertEqual(first, kept)

    def test_plain_whole_numbers(self):
        self.assertEqual({type(number) for number in answers(self.numbers())}, {int})


if __name__ == "__main__":
    unittest.main()
