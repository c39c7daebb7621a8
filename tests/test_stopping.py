import unittest

from helper import heard, last_told, seen, told, world_after

ONE = ("begin", 1, 0, 0, 1, 1)
TWO = ("begin", 1, 200, 0, 2, 2)
# Node 0 knows master 0 (1 to 3), has given the stamp 3, and waits for its second ask, to master 1, which is answered.
BUSY = [TWO, *heard(0, 0), ("stamp", 0), ("pass", 5, [4, 5]), ("ask", 0, 1), ("keep", 0)]


class Stop(unittest.TestCase):
    def test_it_stops_and_has_stopped_already(self):
        calls = [TWO, ("stop", 1), ("stop", 1), ("node", 1), ("node", 0), ("stop", 0), ("stop", 1)]
        nothing = [0, 0, 0, 0, -1, -1, -1, -1, -1, -1]
        self.assertEqual(told(*calls), [[0], [0], [-2], [0] + nothing, [1] + nothing, [0], [-2]])

    def test_a_node_that_is_not_there(self):
        self.assertEqual(told(TWO, ("stop", 2), ("stop", 9), ("stop", 1)), [[0], [-1], [-1], [0]])

    def test_a_refusal_changes_nothing(self):
        for call in (("stop", 2), ("stop", 1)):
            calls = [*BUSY, ("stop", 1)]
            self.assertEqual(seen(world_after(*calls, call)), seen(world_after(*calls)), call)

    def test_only_that_it_runs_is_changed(self):
        before = seen(world_after(*BUSY))
        before["nodes"][0]["runs"] = False
        self.assertEqual(seen(world_after(*BUSY, ("stop", 0))), before)


class Stopped(unittest.TestCase):
    def test_ask_is_refused_behind_what_is_not_there(self):
        calls = [TWO, ("stop", 0), ("ask", 0, 0), ("ask", 0, 2), ("ask", 2, 0), ("ask", 1, 0), ("letters",)]
        self.assertEqual(told(*calls)[2:], [[-3], [-1], [-1], [1], [1, 0, 1, 0, 1]])
        self.assertEqual(told(TWO, ("stop", 0), ("ask", 0, 0), ("start", 0), ("ask", 0, 0))[-1], [1])

    def test_stamp_is_refused_ahead_of_the_unknown_time(self):
        calls = [TWO, ("stop", 0), ("stamp", 0), ("stamp", 2), ("stamp", 1), ("stamps",)]
        self.assertEqual(told(*calls)[2:], [[-3], [-1], [-6], [0]])
        self.assertEqual(told(*BUSY, ("stop", 0), ("stamp", 0), ("stamps",))[-2:], [[-3], [1, 0, 3, 0, -1]])

    def test_settle_is_refused_ahead_of_all_but_what_is_not_there(self):
        # Stamp 0 is past; 1 could be; 2 could not yet.
        calls = [ONE, *heard(0, 0), ("stamp", 0), ("stamp", 0), ("pass", 9, [9]), ("settle", 0), ("stamp", 0)]
        each = [("settle", stamp) for stamp in range(4)]
        self.assertEqual(told(*calls, *each)[-4:], [[-2], [4], [-7], [-1]])
        self.assertEqual(told(*calls, ("stop", 0), *each)[-4:], [[-3], [-3], [-3], [-1]])
        # After the start the time is unknown, which comes behind that it was past already.
        self.assertEqual(told(*calls, ("stop", 0), ("start", 0), *each)[-4:], [[-2], [-6], [-6], [-1]])

    def test_a_refusal_changes_nothing(self):
        calls = [*BUSY, ("stop", 0)]
        for call in (("ask", 0, 0), ("stamp", 0), ("settle", 0)):
            self.assertEqual(last_told(*calls, call), [-3])
            self.assertEqual(seen(world_after(*calls, call)), seen(world_after(*calls)), call)

    def test_its_clock_goes_on(self):
        calls = [TWO, ("stop", 0), ("pass", 5, [4, 6]), ("node", 0), ("node", 1)]
        self.assertEqual([answer[:2] for answer in told(*calls)[-2:]], [[0, 4], [1, 6]])
        self.assertEqual(told(TWO, ("stop", 0), ("pass", 5, [5]), ("pass", 5, [7, 5]))[-2:], [[-1], [-1]])
        self.assertEqual(last_told(*calls, ("start", 0), ("node", 0))[:2], [1, 4])

    def test_an_answer_is_of_no_use_and_is_waited_for_still(self):
        calls = [*BUSY, ("stop", 0)]
        waits = [0, 4, 3, 2, 1, 2, 1, 4, 0, 1, 3, -1, -1, -1]
        self.assertEqual(told(*calls, ("keep", 1), ("node", 0), ("letters",))[-3:], [
            [0], waits, [2, 0, 0, 1, 2, 1, 0, 1, 2, 6, 8],
        ])
        self.assertEqual(told(*calls, ("take", 1), ("node", 0), ("letters",))[-3:], [[0], waits, [1, 0, 0, 1, 2]])

    def test_its_asks_are_answered(self):
        calls = [TWO, ("ask", 0, 1), ("stop", 0), ("take", 0), ("letters",)]
        self.assertEqual(told(*calls)[-2:], [[1], [1, 1, 0, 1, 1, 1, 3]])

    def test_other_nodes_hear(self):
        self.assertEqual(told(TWO, ("stop", 0), *heard(1, 0), ("time", 1))[-2:], [[2], [1, 3]])

    def test_its_time_is_by_what_it_has_in_memory(self):
        calls = [*BUSY, ("stop", 0)]
        self.assertEqual(told(*BUSY, ("time", 0))[-1], [5, 8])
        self.assertEqual(told(*calls, ("time", 0), ("pass", 5, [6, 5]), ("time", 0))[-3:], [[5, 8], [12], [10, 15]])
        self.assertEqual(told(TWO, ("stop", 0), ("time", 0))[-1], [-1, -1])


class Start(unittest.TestCase):
    def test_it_runs_and_runs_already(self):
        calls = [TWO, ("start", 0), ("stop", 0), ("start", 1), ("start", 0), ("start", 0), ("stop", 0)]
        self.assertEqual(told(*calls), [[0], [-2], [0], [-2], [0], [-2], [0]])

    def test_a_node_that_is_not_there(self):
        self.assertEqual(told(TWO, ("start", 2), ("start", 9)), [[0], [-1], [-1]])

    def test_a_refusal_changes_nothing(self):
        for call in (("start", 0), ("start", 1), ("start", 2)):
            self.assertEqual(seen(world_after(*BUSY, call)), seen(world_after(*BUSY)), call)

    def test_memory_is_gone_and_the_disk_and_the_clock_stay(self):
        calls = [*BUSY, ("stop", 0), ("pass", 5, [6, 5]), ("start", 0)]
        self.assertEqual(last_told(*calls, ("node", 0)), [1, 10, 3, 2, 0, -1, -1, -1, -1, -1, -1])
        self.assertEqual(told(*calls, ("time", 0), ("stamp", 0), ("settle", 0))[-3:], [[-1, -1], [-6], [-6]])

    def test_only_that_node_is_changed(self):
        calls = [*BUSY, *heard(1, 0), ("ask", 1, 1), ("stop", 0)]
        before = seen(world_after(*calls))
        before["nodes"][0].update({"runs": True, "waiting": [], "known": [None, None]})
        self.assertEqual(seen(world_after(*calls, ("start", 0))), before)

    def test_asks_are_counted_on(self):
        calls = [*BUSY, ("stop", 0), ("start", 0), ("ask", 0, 0), ("node", 0)]
        self.assertEqual(told(*calls)[-2:], [[3], [1, 4, 3, 3, 1, 3, 0, 4, -1, -1, -1, -1, -1, -1]])

    def test_the_next_stamp_is_above_the_last(self):
        calls = [ONE, ("lie", 0, 50, 60), *heard(0, 0), ("stamp", 0), ("stop", 0), ("start", 0)]
        calls += [("lie", 0, 1, 2), *heard(0, 0), ("time", 0), ("stamp", 0)]
        self.assertEqual(told(*calls)[-2:], [[1, 2], [1, 61]])

    def test_an_answer_to_an_ask_from_ahead_of_it_is_of_no_use(self):
        calls = [*BUSY, ("stop", 0), ("start", 0)]
        nothing = [1, 4, 3, 2, 0, -1, -1, -1, -1, -1, -1]
        self.assertEqual(told(*calls, ("take", 1), ("node", 0))[-2:], [[0], nothing])
        # The ask still lies in the row: it is answered, and that is of no use either.
        self.assertEqual(told(*calls, ("lose", 1), ("take", 0), ("take", 0), ("node", 0))[-3:], [[1], [0], nothing])

    def test_nor_is_it_when_the_same_master_is_asked_anew(self):
        calls = [*BUSY, ("stop", 0), ("start", 0), ("ask", 0, 1), ("keep", 1)]
        self.assertEqual(told(*calls, ("node", 0))[-2:], [[0], [1, 4, 3, 3, 1, 3, 1, 4, -1, -1, -1, -1, -1, -1]])
        self.assertEqual(told(*calls, ("take", 2), ("take", 2), ("time", 0))[-3:], [[1], [2], [6, 8]])

    def test_what_it_hears_then_is_not_held_against_what_it_knew(self):
        calls = [ONE, ("lie", 0, 10, 20), *heard(0, 0), ("lie", 0, 15, 30)]
        self.assertEqual(last_told(*calls, *heard(0, 0), ("time", 0)), [15, 20])
        self.assertEqual(last_told(*calls, ("stop", 0), ("start", 0), *heard(0, 0), ("time", 0)), [15, 30])

    def test_what_it_knew_and_waited_for_is_gone_for_every_master(self):
        calls = [("begin", 1, 0, 0, 3, 1), *heard(0, 0), *heard(0, 1), *heard(0, 2), ("ask", 0, 0), ("ask", 0, 2)]
        self.assertEqual(last_told(*calls, ("stop", 0), ("start", 0), ("node", 0)), [1, 0, 0, 5, 0] + [-1] * 9)


if __name__ == "__main__":
    unittest.main()
