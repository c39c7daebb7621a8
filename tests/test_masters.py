import unittest

from helper import heard, last_told, seen, told, world_after
from honestclocks.knowing import said_by

TEN = ("begin", 10, 0, 0, 2, 1)


def said(*calls):
    world = world_after(*calls)
    return [(said_by(world, master).least, said_by(world, master).greatest) for master in world.masters]


class Skew(unittest.TestCase):
    def test_off_is_2_g_at_most(self):
        self.assertEqual(told(TEN, ("skew", 0, 20), ("skew", 0, 21), ("skew", 0, 0)), [[0], [0], [-1], [0]])
        self.assertEqual(last_told(("begin", 0, 0, 0, 1, 1), ("skew", 0, 1)), [-1])
        self.assertEqual(last_told(("begin", 100, 0, 0, 1, 1), ("skew", 0, 200)), [0])
        self.assertEqual(last_told(("begin", 100, 0, 0, 1, 1), ("skew", 0, 201)), [-1])

    def test_a_master_that_is_not_there(self):
        self.assertEqual(told(TEN, ("skew", 1, 5), ("skew", 2, 5), ("skew", 9, 5))[1:], [[0], [-1], [-1]])

    def test_what_it_says_from_now_on(self):
        self.assertEqual(said(TEN), [(10, 30), (10, 30)])
        self.assertEqual(said(TEN, ("skew", 0, 0)), [(0, 20), (10, 30)])
        self.assertEqual(said(TEN, ("skew", 1, 20)), [(10, 30), (20, 40)])
        self.assertEqual(said(TEN, ("skew", 1, 20), ("pass", 5, [5])), [(15, 35), (25, 45)])
        self.assertEqual(last_told(TEN, ("skew", 1, 20), *heard(0, 1), ("stamp", 0)), [0, 40])

    def test_after_a_lie_it_does_not_lie(self):
        calls = [TEN, ("lie", 0, 500, 600), ("skew", 0, 0)]
        self.assertEqual(said(*calls)[0], (0, 20))
        self.assertEqual(last_told(*calls, *heard(0, 0), ("stamp", 0)), [0, 20])
        self.assertTrue(world_after(*calls).masters[0].ever_lied)

    def test_a_refused_skew_after_a_lie_leaves_the_lie(self):
        calls = [TEN, ("lie", 0, 500, 600), ("skew", 0, 21)]
        self.assertEqual(said(*calls)[0], (500, 600))
        self.assertEqual(last_told(*calls, *heard(0, 0), ("stamp", 0)), [0, 600])


class Lie(unittest.TestCase):
    def test_b_is_not_less_than_a(self):
        calls = [TEN, ("lie", 0, 7, 7), ("lie", 0, 7, 6), ("lie", 0, 0, 99999), ("lie", 0, 99999, 0)]
        self.assertEqual(told(*calls), [[0], [0], [-1], [0], [-1]])

    def test_a_master_that_is_not_there(self):
        self.assertEqual(told(TEN, ("lie", 1, 1, 2), ("lie", 2, 1, 2), ("lie", 9, 1, 2))[1:], [[0], [-1], [-1]])

    def test_it_says_that_whatever_passes(self):
        calls = [TEN, ("lie", 0, 7, 7), ("pass", 100, [100])]
        self.assertEqual(said(*calls), [(7, 7), (110, 130)])
        self.assertEqual(last_told(*calls, *heard(0, 0), ("stamp", 0)), [0, 7])

    def test_it_is_known_that_it_lied(self):
        world = world_after(TEN, ("lie", 1, 1, 2))
        self.assertEqual([master.ever_lied for master in world.masters], [False, True])

    def test_a_lie_may_follow_a_lie(self):
        self.assertEqual(said(TEN, ("lie", 0, 7, 8), ("lie", 0, 1, 2))[0], (1, 2))

    def test_more_than_f_may_be_told_to_lie(self):
        self.assertEqual(told(TEN, ("lie", 0, 1, 2), ("lie", 1, 1, 2)), [[0], [0], [0]])

    def test_a_refusal_changes_nothing(self):
        for call in (("lie", 2, 1, 2), ("lie", 0, 2, 1), ("skew", 2, 0), ("skew", 0, 21)):
            self.assertEqual(seen(world_after(TEN, call)), seen(world_after(TEN)), call)


if __name__ == "__main__":
    unittest.main()
