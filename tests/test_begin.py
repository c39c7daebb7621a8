import unittest

from helper import heard, last_told, seen, told, world_after

SMALL = ("begin", 1, 0, 0, 1, 1)


class WithoutAWorld(unittest.TestCase):
    def test_every_call_but_begin_answers_minus_nine(self):
        calls = [
            ("pass", 1, [1]), ("pass", 0, []), ("pass", 2000, [1] * 10), ("skew", 0, 0), ("lie", 0, 0, 0),
            ("ask", 0, 0), ("stamp", 0), ("settle", 0), ("take", 0), ("keep", 0), ("lose", 0), ("stop", 0),
            ("start", 0), ("letters",), ("stamps",), ("time", 0), ("node", 0), ("master", 0),
        ]
        for call in calls:
            self.assertEqual(told(call), [[-9]], call)
        self.assertEqual(told(*calls), [[-9]] * len(calls))

    def test_calls_that_would_be_refused_answer_minus_nine_too(self):
        self.assertEqual(told(("skew", 9, 999), ("lie", 9, 2, 1), ("ask", 9, 9), ("settle", 200)), [[-9]] * 4)
        self.assertEqual(told(("lose", 200), ("stop", 9), ("start", 9)), [[-9]] * 3)
        self.assertEqual(told(("time", 9), ("node", 9), ("master", 9)), [[-9]] * 3)

    def test_a_refused_begin_leaves_no_world(self):
        self.assertEqual(told(("begin", 101, 0, 0, 1, 1), ("ask", 0, 0)), [[-1], [-9]])


class Begin(unittest.TestCase):
    def answer(self, *numbers):
        return last_told(("begin",) + numbers)

    def test_g_is_100_at_most(self):
        self.assertEqual(self.answer(0, 0, 0, 1, 1), [0])
        self.assertEqual(self.answer(100, 0, 0, 1, 1), [0])
        self.assertEqual(self.answer(101, 0, 0, 1, 1), [-1])
        self.assertEqual(self.answer(999, 0, 0, 1, 1), [-1])

    def test_w_is_200_at_most(self):
        self.assertEqual(self.answer(0, 200, 0, 1, 1), [0])
        self.assertEqual(self.answer(0, 201, 0, 1, 1), [-1])
        self.assertEqual(self.answer(0, 999, 0, 1, 1), [-1])

    def test_masters_are_1_to_5(self):
        for masters in range(10):
            self.assertEqual(self.answer(0, 0, 0, masters, 1), [0] if 1 <= masters <= 5 else [-1], masters)

    def test_f_is_less_than_masters(self):
        for masters in range(1, 6):
            for f in range(10):
                self.assertEqual(self.answer(0, 0, f, masters, 1), [0] if f < masters else [-1], (f, masters))

    def test_nodes_are_1_to_3(self):
        for nodes in range(10):
            self.assertEqual(self.answer(0, 0, 0, 1, nodes), [0] if 1 <= nodes <= 3 else [-1], nodes)

    def test_the_true_time_is_2_g_at_first(self):
        for g in (0, 1, 50, 100):
            self.assertEqual(told(("begin", g, 0, 0, 1, 1), ("pass", 0, [0])), [[0], [2 * g]])

    def test_a_master_is_off_by_g_at_first(self):
        world = [("begin", 10, 0, 0, 1, 1)]
        self.assertEqual(last_told(*world, *heard(0, 0), ("stamp", 0)), [0, 30])

    def test_there_are_as_many_masters_and_nodes_as_told(self):
        calls = [("begin", 0, 0, 0, 2, 3), ("ask", 2, 1), ("ask", 3, 1), ("ask", 2, 2)]
        self.assertEqual(told(*calls), [[0], [1], [-1], [-1]])

    def test_all_of_a_world_as_at_first(self):
        node = {"runs": True, "clock": 0, "last_stamp": 0, "asked": 0, "waiting": [], "known": [None, None]}
        master = {"off": 7, "claim": None, "ever_lied": False}
        self.assertEqual(seen(world_after(("begin", 7, 5, 1, 2, 3))), {
            "g": 7, "w": 5, "f": 1, "true_time": 14, "masters": [master] * 2, "nodes": [node] * 3,
            "letters": [], "stamps": [], "events": 0,
        })


class BeginAgain(unittest.TestCase):
    BUSY = [
        SMALL, ("pass", 3, [3]), *heard(0, 0), ("stamp", 0), ("pass", 9, [9]), ("settle", 0),
        ("lie", 0, 5, 6), ("ask", 0, 0), ("keep", 0),
    ]

    def test_a_refused_begin_leaves_the_world_as_it_was(self):
        refused = [
            ("begin", 101, 0, 0, 1, 1), ("begin", 0, 201, 0, 1, 1), ("begin", 0, 0, 1, 1, 1),
            ("begin", 0, 0, 0, 0, 1), ("begin", 0, 0, 0, 6, 1), ("begin", 0, 0, 0, 1, 0), ("begin", 0, 0, 0, 1, 4),
        ]
        before = seen(world_after(*self.BUSY))
        for call in refused:
            self.assertEqual(last_told(*self.BUSY, call), [-1])
            self.assertEqual(seen(world_after(*self.BUSY, call)), before, call)
            self.assertEqual(last_told(*self.BUSY, call, ("pass", 0, [0])), [14])

    def test_a_begin_makes_a_world_as_at_first_whatever_was_there(self):
        self.assertEqual(seen(world_after(*self.BUSY, SMALL)), seen(world_after(SMALL)))
        after = told(*self.BUSY, SMALL, ("take", 0), ("settle", 0), ("stamp", 0), ("pass", 0, [0]), ("ask", 0, 0))
        self.assertEqual(after[-6:], [[0], [-1], [-1], [-6], [2], [1]])

    def test_a_begin_may_change_how_many_there_are(self):
        calls = [SMALL, ("ask", 1, 0), ("begin", 1, 0, 0, 2, 2), ("ask", 1, 1), SMALL, ("ask", 1, 0)]
        self.assertEqual(told(*calls), [[0], [-1], [0], [1], [0], [-1]])


if __name__ == "__main__":
    unittest.main()
