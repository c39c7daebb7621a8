import unittest

from helper import answer_on, heard, last_told, seen, told, world_after

ONE = ("begin", 1, 0, 0, 1, 1)
# Truth and what's said are one; clocks go wrong by a fifth.
ROUGH = ("begin", 0, 200, 0, 1, 1)


def hears(least, greatest):
    return [("lie", 0, least, greatest), *heard(0, 0)]


def known(*calls):
    """When, from, to: what the only node knows of the only master."""
    thing = world_after(*calls).nodes[0].known[0]
    return (thing.when, thing.span.least, thing.span.greatest)


class Take(unittest.TestCase):
    def test_an_ask_then_its_answer(self):
        self.assertEqual(told(ONE, ("ask", 0, 0), ("take", 0), ("take", 0), ("take", 0)), [[0], [1], [1], [2], [-1]])

    def test_the_answer_lies_at_the_end_of_the_row(self):
        calls = [ONE, ("ask", 0, 0), ("ask", 0, 0), ("take", 0)]
        self.assertEqual([letter.kind for letter in world_after(*calls).letters], [0, 1])
        self.assertEqual(told(*calls, ("take", 0), ("take", 0), ("take", 0))[-3:], [[1], [2], [2]])

    def test_the_answer_bears_what_the_ask_bore_and_what_is_said_now(self):
        calls = [("begin", 1, 0, 0, 2, 2), ("ask", 1, 0), ("ask", 1, 1), ("pass", 5, [5, 5]), ("take", 1)]
        self.assertEqual(seen(world_after(*calls, ("pass", 5, [5, 5])).letters[1]), {
            "kind": 1, "node": 1, "master": 1, "number": 2, "span": {"least": 6, "greatest": 8},
        })

    def test_a_letter_that_is_not_there(self):
        calls = [ONE, ("take", 0), ("ask", 0, 0), ("take", 1), ("take", 200), ("take", 0)]
        self.assertEqual(told(*calls), [[0], [-1], [1], [-1], [-1], [1]])

    def test_an_answer_is_for_its_own_node(self):
        calls = [("begin", 1, 0, 0, 1, 2), ("ask", 1, 0), ("ask", 0, 0), ("take", 0), ("take", 1)]
        self.assertEqual(told(*calls, ("stamp", 0), ("stamp", 1))[-3:], [[2], [-6], [0, 3]])


class Keep(unittest.TestCase):
    def test_an_ask_handed_over_twice(self):
        calls = [ONE, ("ask", 0, 0), ("keep", 0), ("keep", 0), ("take", 1), ("take", 1), ("take", 1), ("take", 0)]
        self.assertEqual(told(*calls), [[0], [1], [1], [1], [2], [0], [-1], [1]])

    def test_the_second_answer_says_what_is_said_then(self):
        calls = [ONE, ("ask", 0, 0), ("keep", 0), ("pass", 10, [10]), ("keep", 0)]
        self.assertEqual(last_told(*calls, ("take", 2), ("stamp", 0)), [0, 23])
        self.assertEqual(last_told(*calls, ("take", 1), ("stamp", 0)), [0, 13])

    def test_an_answer_handed_over_twice(self):
        calls = [ONE, ("ask", 0, 0), ("take", 0), ("keep", 0), ("keep", 0), ("take", 0), ("take", 0)]
        self.assertEqual(told(*calls), [[0], [1], [1], [2], [0], [0], [-1]])

    def test_a_letter_that_is_not_there(self):
        calls = [ONE, ("keep", 0), ("ask", 0, 0), ("keep", 1), ("keep", 200), ("keep", 0)]
        self.assertEqual(told(*calls), [[0], [-1], [1], [-1], [-1], [1]])

    def test_the_row_is_as_it_was_but_for_the_answer(self):
        before = seen(world_after(ONE, ("ask", 0, 0), ("ask", 0, 0)).letters)
        after = seen(world_after(ONE, ("ask", 0, 0), ("ask", 0, 0), ("keep", 0)).letters)
        self.assertEqual(after[:2], before)
        self.assertEqual((after[2]["kind"], after[2]["number"]), (1, 1))
        self.assertEqual(len(after), 3)


class OfUse(unittest.TestCase):
    def test_an_answer_of_no_use_changes_nothing(self):
        calls = [ONE, ("ask", 0, 0), ("take", 0), ("keep", 0), ("pass", 5, [5])]
        self.assertEqual(seen(world_after(*calls, ("keep", 0))), seen(world_after(*calls)))

    def test_what_is_heard_is_waited_for_no_more_and_the_rest_is(self):
        calls = [ONE, ("ask", 0, 0), ("ask", 0, 0), ("ask", 0, 0), ("take", 1), ("take", 2)]
        waiting = world_after(*calls).nodes[0].waiting
        self.assertEqual([thing.number for thing in waiting], [1, 3])

    def test_answers_may_come_in_another_order(self):
        calls = [ONE, ("ask", 0, 0), ("pass", 4, [4]), ("ask", 0, 0), ("take", 0), ("take", 0), ("take", 1), ("take", 0)]
        self.assertEqual(told(*calls)[-4:], [[1], [1], [2], [2]])

    def test_number_and_master_both_count(self):
        world = world_after(("begin", 1, 0, 0, 2, 1), ("ask", 0, 0), ("take", 0))
        world.letters[0].master = 1
        self.assertEqual(answer_on(world, "keep", 0), [0])
        world.letters[0].master = 0
        world.letters[0].number = 2
        self.assertEqual(answer_on(world, "keep", 0), [0])
        world.letters[0].number = 1
        self.assertEqual(answer_on(world, "keep", 0), [2])

    def test_a_stopped_node_hears_nothing(self):
        world = world_after(ONE, ("ask", 0, 0), ("keep", 0))
        world.nodes[0].runs = False
        before = seen(world)
        self.assertEqual(answer_on(world, "keep", 1), [0])
        self.assertEqual(seen(world), before)
        self.assertEqual(answer_on(world, "take", 1), [0])
        self.assertEqual(len(world.letters), 1)
        self.assertEqual(answer_on(world, "keep", 0), [1])


class WhatIsNew(unittest.TestCase):
    def test_the_greatest_moves_by_what_has_passed_since_the_ask(self):
        calls = [ONE, ("ask", 0, 0), ("take", 0), ("pass", 10, [10]), ("take", 0)]
        self.assertEqual(known(*calls), (10, 1, 13))
        calls = [ONE, ("pass", 7, [7]), ("ask", 0, 0), ("pass", 10, [10]), ("take", 0), ("take", 0)]
        self.assertEqual(known(*calls), (17, 18, 30))
        self.assertEqual(last_told(*calls, ("stamp", 0)), [0, 30])

    def test_it_is_rounded_down(self):
        for d, step, most in ((5, 4, 5), (5, 5, 6), (5, 6, 7), (1, 1, 1)):
            calls = [ROUGH, ("ask", 0, 0), ("take", 0), ("pass", d, [step]), ("take", 0)]
            self.assertEqual(known(*calls), (step, 0, most))
            self.assertEqual(last_told(*calls, ("stamp", 0)), [0, most])

    def test_numbers_in_common_with_what_was_known(self):
        calls = [ONE, *hears(10, 20), *hears(15, 30)]
        self.assertEqual(known(*calls), (0, 15, 20))
        self.assertEqual(last_told(*calls, ("stamp", 0)), [0, 20])
        self.assertEqual(known(ONE, *hears(10, 20), *hears(5, 12)), (0, 10, 12))
        self.assertEqual(known(ONE, *hears(10, 20), *hears(12, 13)), (0, 12, 13))
        self.assertEqual(known(ONE, *hears(12, 13), *hears(10, 20)), (0, 12, 13))

    def test_the_least_in_common(self):
        calls = [ONE, *hears(0, 14), ("stamp", 0), ("stamp", 0), *hears(16, 30), *hears(15, 20), ("settle", 1)]
        self.assertEqual(last_told(*calls), [15])

    def test_just_one_number_in_common_and_just_none(self):
        self.assertEqual(known(ONE, *hears(10, 20), *hears(20, 30)), (0, 20, 20))
        self.assertEqual(known(ONE, *hears(10, 20), *hears(21, 30)), (0, 21, 30))
        self.assertEqual(known(ONE, *hears(10, 20), *hears(5, 10)), (0, 10, 10))
        self.assertEqual(known(ONE, *hears(10, 20), *hears(5, 9)), (0, 5, 9))
        self.assertEqual(last_told(ONE, *hears(10, 20), *hears(21, 30), ("stamp", 0)), [0, 30])

    def test_what_was_known_counts_as_it_is_now(self):
        calls = [ONE, *hears(10, 10), ("pass", 5, [5]), *hears(15, 30)]
        self.assertEqual(known(*calls), (5, 15, 15))
        self.assertEqual(last_told(*calls, ("pass", 5, [5]), ("stamp", 0)), [0, 20])
        self.assertEqual(known(ONE, *hears(10, 10), ("pass", 5, [5]), *hears(5, 14)), (5, 5, 14))

    def test_what_is_known_of_other_masters_does_not_count(self):
        calls = [("begin", 1, 0, 1, 2, 1), ("lie", 0, 10, 20), *heard(0, 0), ("lie", 1, 15, 30), *heard(0, 1)]
        self.assertEqual(last_told(*calls, ("stamp", 0)), [0, 30])


class WhatIsKnownNow(unittest.TestCase):
    def test_the_greatest_is_rounded_down(self):
        for d, step, most in ((5, 4, 5), (5, 5, 6), (5, 6, 7), (1, 1, 1), (1000, 1199, 1498)):
            calls = [ROUGH, *heard(0, 0), ("pass", d, [step]), ("stamp", 0)]
            self.assertEqual(last_told(*calls), [0, most], (d, step))

    def test_the_least_is_rounded_up(self):
        # Four stamps at time 0 have the values 1 to 4: which of them are past tells the least.
        for d, step, least in ((5, 4, 4), (2, 2, 2), (3, 3, 3), (4, 4, 4)):
            calls = [ROUGH, *heard(0, 0)] + [("stamp", 0)] * 4 + [("pass", d, [step])]
            calls += [("settle", stamp) for stamp in range(4)]
            expected = [[value] if value < least else [-7] for value in range(1, 5)]
            self.assertEqual(told(*calls)[-4:], expected, (d, step))

    def test_both_grow_from_when_it_was_known_in_one_step(self):
        calls = [ROUGH, *heard(0, 0)] + [("pass", 1, [1])] * 6 + [("stamp", 0)]
        self.assertEqual(last_told(*calls), [0, 7])

    def test_what_is_known_is_not_changed_by_time(self):
        self.assertEqual(known(ROUGH, *heard(0, 0), ("pass", 5, [4]), ("stamp", 0)), (0, 0, 0))


if __name__ == "__main__":
    unittest.main()
