import unittest

from helper import heard, last_told, seen, told, world_after

TWO = ("begin", 1, 200, 0, 2, 2)
UNKNOWN = [-1, -1]


def hears(node, master, least, greatest):
    """The calls by which a node hears a lie."""
    return [("lie", master, least, greatest), *heard(node, master)]


class Letters(unittest.TestCase):
    def test_none(self):
        self.assertEqual(told(TWO, ("letters",)), [[0], [0]])
        self.assertEqual(last_told(TWO, *heard(0, 0), ("letters",)), [0])

    def test_asks_have_four_numbers_each(self):
        calls = [TWO, ("ask", 1, 0), ("ask", 0, 1), ("ask", 1, 1)]
        self.assertEqual(last_told(*calls, ("letters",)), [3, 0, 1, 0, 1, 0, 0, 1, 1, 0, 1, 1, 2])

    def test_answers_have_six_in_the_order_in_which_they_were_sent(self):
        calls = [TWO, ("ask", 1, 0), ("ask", 0, 1), ("keep", 0)]
        self.assertEqual(last_told(*calls, ("letters",)), [3, 0, 1, 0, 1, 0, 0, 1, 1, 1, 1, 0, 1, 1, 3])
        calls += [("pass", 5, [4, 6]), ("take", 1), ("ask", 1, 1)]
        self.assertEqual(last_told(*calls, ("letters",)), [
            4, 0, 1, 0, 1, 1, 1, 0, 1, 1, 3, 1, 0, 1, 1, 6, 8, 0, 1, 1, 2,
        ])

    def test_answers_alone(self):
        calls = [TWO, ("ask", 0, 1), ("take", 0), ("letters",)]
        self.assertEqual(last_told(*calls), [1, 1, 0, 1, 1, 1, 3])

    def test_an_answer_bears_what_was_said_when_it_was_sent(self):
        calls = [TWO, ("lie", 1, 70, 70), ("ask", 0, 1), ("take", 0), ("skew", 1, 0), ("pass", 5, [5, 5]), ("letters",)]
        self.assertEqual(last_told(*calls), [1, 1, 0, 1, 1, 70, 70])

    def test_an_answer_from_0_to_0(self):
        calls = [("begin", 0, 0, 0, 1, 1), ("ask", 0, 0), ("take", 0), ("letters",)]
        self.assertEqual(last_told(*calls), [1, 1, 0, 0, 1, 0, 0])


class Time(unittest.TestCase):
    def test_a_node_that_is_not_there(self):
        self.assertEqual(told(TWO, ("time", 2), ("time", 9), ("time", 1)), [[0], [-1], [-1], UNKNOWN])

    def test_unknown_because_too_little_is_known(self):
        calls = [("begin", 1, 0, 2, 5, 1)]
        for master in range(3):
            self.assertEqual(last_told(*calls, ("time", 0)), UNKNOWN, master)
            calls += heard(0, master)
        self.assertEqual(last_told(*calls, ("time", 0)), [1, 3])
        self.assertEqual(last_told(calls[0], *heard(0, 4), *heard(0, 4), *heard(0, 4), ("time", 0)), UNKNOWN)

    def test_unknown_because_too_few_agree(self):
        calls = [("begin", 1, 0, 0, 2, 1), *hears(0, 0, 10, 20)]
        self.assertEqual(last_told(*calls, ("time", 0)), [10, 20])
        self.assertEqual(last_told(*calls, *hears(0, 1, 21, 30), ("time", 0)), UNKNOWN)
        self.assertEqual(last_told(*calls, *hears(0, 1, 20, 30), ("time", 0)), [20, 20])
        three = [("begin", 1, 0, 1, 3, 1), *hears(0, 0, 1, 2), *hears(0, 1, 3, 4)]
        self.assertEqual(last_told(*three, ("time", 0)), [1, 4])
        self.assertEqual(last_told(*three, *hears(0, 2, 5, 6), ("time", 0)), UNKNOWN)

    def test_known_of_masters_that_do_not_lie(self):
        calls = [("begin", 10, 0, 0, 3, 1), ("skew", 0, 0), ("skew", 2, 20)]
        for master, answer in enumerate(([0, 20], [10, 20], [20, 20])):
            calls += heard(0, master)
            self.assertEqual(last_told(*calls, ("time", 0)), answer)

    def test_with_a_lie_and_a_clock_that_goes_wrong(self):
        calls = [("begin", 1, 200, 1, 3, 1), *heard(0, 0), ("skew", 1, 0), *heard(0, 1), *hears(0, 2, 500, 600)]
        self.assertEqual(last_told(*calls, ("time", 0)), [1, 2])
        for step, answer in ((4, [5, 7]), (5, [6, 8]), (6, [6, 9])):
            self.assertEqual(last_told(*calls, ("pass", 5, [step]), ("time", 0)), answer, step)

    def test_a_lie_that_overlaps(self):
        calls = [("begin", 5, 0, 1, 3, 1), *heard(0, 0), ("skew", 1, 10), *heard(0, 1), *hears(0, 2, 0, 11)]
        self.assertEqual(last_told(*calls, ("time", 0)), [5, 15])

    def test_from_the_least_to_the_greatest_over_a_gap(self):
        calls = [("begin", 1, 0, 2, 4, 1), *hears(0, 0, 0, 10), *hears(0, 1, 5, 6)]
        calls += [*hears(0, 2, 50, 60), *hears(0, 3, 55, 70), ("time", 0)]
        self.assertEqual(last_told(*calls), [5, 60])

    def test_what_was_known_at_other_times_counts_as_it_is_now(self):
        calls = [("begin", 0, 0, 0, 2, 1), *heard(0, 0), ("pass", 7, [7]), *heard(0, 1), ("pass", 2, [2]), ("time", 0)]
        self.assertEqual(last_told(*calls), [9, 9])

    def test_from_0_to_0_is_not_unknown(self):
        self.assertEqual(last_told(("begin", 0, 0, 0, 1, 1), *heard(0, 0), ("time", 0)), [0, 0])

    def test_each_node_has_its_own(self):
        calls = [TWO, *heard(1, 0), ("pass", 5, [4, 6]), ("time", 0), ("time", 1)]
        self.assertEqual(told(*calls)[-2:], [UNKNOWN, [6, 10]])


class Node(unittest.TestCase):
    # Node 0's asks: 1 to master 1 at its 4, 2 to master 0 and 3 to master 1 at its 9.
    ASKED = [TWO, ("pass", 5, [4, 6]), ("ask", 0, 1), ("pass", 5, [5, 5]), ("ask", 0, 0), ("ask", 0, 1)]

    def test_a_node_that_is_not_there(self):
        self.assertEqual(told(TWO, ("node", 2), ("node", 9)), [[0], [-1], [-1]])

    def test_nothing_known(self):
        self.assertEqual(last_told(TWO, ("node", 1)), [1, 0, 0, 0, 0, -1, -1, -1, -1, -1, -1])
        self.assertEqual(last_told(("begin", 0, 0, 0, 1, 1), ("node", 0)), [1, 0, 0, 0, 0, -1, -1, -1])
        self.assertEqual(last_told(("begin", 0, 0, 0, 5, 1), ("node", 0)), [1, 0, 0, 0, 0] + [-1] * 15)

    def test_several_asks_waited_for_in_order(self):
        waits = [3, 1, 1, 4, 2, 0, 9, 3, 1, 9]
        self.assertEqual(last_told(*self.ASKED, ("node", 0)), [1, 9, 0, 3] + waits + [-1] * 6)
        self.assertEqual(last_told(*self.ASKED, ("node", 1)), [1, 11, 0, 0, 0] + [-1] * 6)

    def test_some_masters_known_and_others_not(self):
        calls = [*self.ASKED, ("take", 1), ("take", 2)]
        waits = [2, 1, 1, 4, 3, 1, 9]
        self.assertEqual(last_told(*calls, ("node", 0)), [1, 9, 0, 3] + waits + [9, 11, 13, -1, -1, -1])
        five = [("begin", 1, 0, 2, 5, 1), *heard(0, 1), ("pass", 3, [3]), *heard(0, 3), ("node", 0)]
        self.assertEqual(last_told(*five), [1, 3, 0, 2, 0, -1, -1, -1, 0, 1, 3, -1, -1, -1, 3, 4, 6, -1, -1, -1])

    def test_what_is_known_stands_as_it_was_then(self):
        calls = [*self.ASKED, ("take", 1), ("take", 2), ("pass", 5, [6, 5]), ("stamp", 0), ("node", 0)]
        waits = [2, 1, 1, 4, 3, 1, 9]
        self.assertEqual(told(*calls)[-2:], [[0, 20], [1, 15, 20, 3] + waits + [9, 11, 13, -1, -1, -1]])

    def test_the_last_stamp_and_no_other(self):
        calls = [TWO, *heard(1, 0), ("stamp", 1), ("stamp", 1), ("node", 1), ("node", 0)]
        self.assertEqual(told(*calls)[-2:], [[1, 0, 4, 1, 0, 0, 1, 3, -1, -1, -1], [1, 0, 0, 0, 0] + [-1] * 6])

    def test_known_from_0_to_0_at_0(self):
        self.assertEqual(last_told(("begin", 0, 0, 0, 1, 1), *heard(0, 0), ("node", 0)), [1, 0, 0, 1, 0, 0, 0, 0])


class Master(unittest.TestCase):
    TEN = ("begin", 10, 0, 0, 2, 1)

    def test_a_master_that_is_not_there(self):
        self.assertEqual(told(self.TEN, ("master", 2), ("master", 9), ("master", 1)), [[0], [-1], [-1], [0, 10, 30]])

    def test_off_by_g_and_by_other_than_at_first(self):
        calls = [self.TEN, ("skew", 1, 0), ("master", 0), ("master", 1), ("skew", 1, 20), ("master", 1)]
        self.assertEqual(told(*calls)[2:], [[0, 10, 30], [0, 0, 20], [0], [0, 20, 40]])

    def test_it_goes_with_the_true_time(self):
        calls = [self.TEN, ("skew", 0, 3), ("pass", 100, [100]), ("master", 0), ("master", 1)]
        self.assertEqual(told(*calls)[-2:], [[0, 103, 123], [0, 110, 130]])

    def test_lying(self):
        calls = [self.TEN, ("lie", 1, 7, 99999), ("master", 1), ("pass", 9, [9]), ("master", 1), ("master", 0)]
        self.assertEqual(told(*calls)[2:], [[1, 7, 99999], [29], [1, 7, 99999], [0, 19, 39]])

    def test_that_it_ever_lied_stays(self):
        calls = [self.TEN, ("lie", 0, 7, 7), ("skew", 0, 10), ("master", 0), ("pass", 1, [1]), ("master", 0)]
        self.assertEqual(told(*calls)[3:], [[1, 10, 30], [21], [1, 11, 31]])

    def test_a_lie_that_is_the_same_as_the_truth(self):
        self.assertEqual(told(self.TEN, ("lie", 0, 10, 30), ("master", 0))[-1], [1, 10, 30])

    def test_refused_calls_are_no_lie(self):
        calls = [self.TEN, ("lie", 0, 2, 1), ("lie", 2, 1, 2), ("skew", 0, 21), ("master", 0), ("master", 1)]
        self.assertEqual(told(*calls)[1:], [[-1], [-1], [-1], [0, 10, 30], [0, 10, 30]])


class Stamps(unittest.TestCase):
    def test_none(self):
        self.assertEqual(told(TWO, ("stamps",), ("stamp", 0), ("stamps",)), [[0], [0], [-6], [0]])

    def test_given(self):
        calls = [TWO, *heard(0, 0), *heard(1, 0), ("stamp", 1), ("stamp", 0), ("stamp", 1), ("stamps",)]
        self.assertEqual(last_told(*calls), [3, 1, 3, 0, -1, 0, 3, 1, -1, 1, 4, 2, -1])

    def test_past_with_the_events_counted_together(self):
        calls = [("begin", 1, 0, 0, 1, 2), *heard(0, 0), *heard(1, 0), ("stamp", 0), ("settle", 0), ("stamp", 1)]
        calls += [("pass", 9, [9, 9]), ("settle", 1), ("settle", 1), ("stamp", 0), ("settle", 0), ("stamps",)]
        self.assertEqual(last_told(*calls), [3, 0, 3, 0, 4, 1, 3, 1, 2, 0, 12, 3, -1])

    def test_past_at_event_1(self):
        calls = [("begin", 1, 0, 0, 1, 1), *heard(0, 0), ("stamp", 0), ("pass", 9, [9]), ("settle", 0), ("stamps",)]
        self.assertEqual(last_told(*calls), [1, 0, 3, 0, 1])

    def test_they_stay_when_their_node_stops_and_starts(self):
        calls = [TWO, *heard(0, 0), ("stamp", 0), ("stop", 0), ("stamps",), ("start", 0), ("stamps",)]
        self.assertEqual(told(*calls)[-3:], [[1, 0, 3, 0, -1], [0], [1, 0, 3, 0, -1]])


class ChangeNothing(unittest.TestCase):
    SHOWS = [
        ("letters",), ("time", 0), ("time", 1), ("time", 2), ("node", 0), ("node", 1), ("node", 2), ("master", 0),
        ("master", 1), ("master", 2), ("stamps",),
    ]
    CALLS = [
        TWO, ("ask", 0, 0), ("keep", 0), ("take", 1), ("pass", 5, [4, 6]), ("lie", 1, 3, 9), ("ask", 1, 1),
        ("take", 1), ("take", 1), ("stamp", 0), ("stamp", 1), ("stop", 1), ("keep", 0), ("ask", 0, 1),
        ("pass", 100, [90, 110]), ("settle", 0), ("start", 1), ("lose", 0), ("skew", 1, 2), ("take", 1), ("take", 0),
        ("stamp", 0), ("ask", 1, 0), ("settle", 1), ("stop", 0),
    ]

    def test_the_same_comes_twice_and_all_is_as_it_was(self):
        for many in range(1, len(self.CALLS) + 1):
            calls = self.CALLS[:many]
            once = told(*calls, *self.SHOWS)[many:]
            self.assertEqual(told(*calls, *self.SHOWS, *self.SHOWS)[many:], once + once)
            self.assertEqual(seen(world_after(*calls, *self.SHOWS)), seen(world_after(*calls)))

    def test_what_comes_behind_is_the_same_with_and_without(self):
        without = told(*self.CALLS)
        for show in self.SHOWS:
            woven = [call for one in self.CALLS for call in (one, show)]
            self.assertEqual(told(*woven)[::2], without, show)


if __name__ == "__main__":
    unittest.main()
