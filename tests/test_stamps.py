import unittest

from helper import answer_on, heard, last_told, seen, told, world_after

ONE = ("begin", 1, 0, 0, 1, 1)


def hears(node, master, least, greatest):
    """The calls by which a node hears a lie."""
    return [("lie", master, least, greatest), *heard(node, master)]


class Stamp(unittest.TestCase):
    def test_its_number_and_the_greatest_that_the_time_is(self):
        calls = [ONE, *heard(0, 0), ("stamp", 0), ("pass", 5, [5]), ("stamp", 0)]
        self.assertEqual(told(*calls), [[0], [1], [1], [2], [0, 3], [7], [1, 8]])

    def test_the_last_stamp_and_1_where_that_is_more(self):
        calls = [ONE, *heard(0, 0), ("stamp", 0), ("stamp", 0), ("stamp", 0), ("pass", 2, [2]), ("stamp", 0)]
        self.assertEqual(told(*calls)[4:], [[0, 3], [1, 4], [2, 5], [4], [3, 6]])

    def test_the_greatest_where_that_is_as_much_as_the_last_and_1(self):
        calls = [ONE, *heard(0, 0), ("stamp", 0), ("pass", 1, [1]), ("stamp", 0), ("stamp", 0)]
        self.assertEqual(told(*calls)[4:], [[0, 3], [3], [1, 4], [2, 5]])

    def test_the_first_stamp_at_time_0_is_1(self):
        self.assertEqual(last_told(("begin", 0, 0, 0, 1, 1), *heard(0, 0), ("stamp", 0)), [0, 1])

    def test_the_last_stamp_is_each_nodes_own_and_numbers_are_not(self):
        calls = [("begin", 1, 0, 0, 1, 2), *heard(0, 0), *heard(1, 0)]
        calls += [("stamp", 0), ("stamp", 0), ("stamp", 1), ("stamp", 0)]
        self.assertEqual(told(*calls)[-4:], [[0, 3], [1, 4], [2, 3], [3, 5]])

    def test_a_node_that_is_not_there(self):
        self.assertEqual(told(ONE, ("stamp", 1), ("stamp", 9)), [[0], [-1], [-1]])

    def test_nothing_known(self):
        self.assertEqual(told(ONE, ("stamp", 0)), [[0], [-6]])
        self.assertEqual(told(ONE, ("ask", 0, 0), ("take", 0), ("stamp", 0)), [[0], [1], [1], [-6]])
        self.assertEqual(last_told(("begin", 1, 0, 0, 1, 2), *heard(0, 0), ("stamp", 1)), [-6])

    def test_not_more_than_f_known(self):
        calls = [("begin", 1, 0, 2, 4, 1)]
        for master in (0, 1):
            calls += heard(0, master)
            self.assertEqual(last_told(*calls, ("stamp", 0)), [-6])
        self.assertEqual(last_told(*calls, *heard(0, 1), ("stamp", 0)), [-6])
        self.assertEqual(last_told(*calls, *heard(0, 2), ("stamp", 0)), [0, 3])

    def test_no_number_that_enough_have(self):
        calls = [("begin", 1, 0, 0, 2, 1), *hears(0, 0, 10, 20)]
        self.assertEqual(last_told(*calls, *hears(0, 1, 21, 30), ("stamp", 0)), [-6])
        self.assertEqual(last_told(*calls, *hears(0, 1, 20, 30), ("stamp", 0)), [0, 20])
        three = [("begin", 1, 0, 1, 3, 1), *hears(0, 0, 1, 2), *hears(0, 1, 3, 4)]
        self.assertEqual(last_told(*three, ("stamp", 0)), [0, 4])
        self.assertEqual(last_told(*three, *hears(0, 2, 5, 6), ("stamp", 0)), [-6])
        self.assertEqual(last_told(*three, *hears(0, 2, 2, 2), ("stamp", 0)), [0, 2])

    def test_the_greatest_that_enough_have(self):
        calls = [("begin", 1, 0, 1, 3, 1)]
        calls += [*hears(0, 0, 0, 10), *hears(0, 1, 5, 15), *hears(0, 2, 100, 110)]
        self.assertEqual(last_told(*calls, ("stamp", 0)), [0, 10])

    def test_with_a_gap_from_the_least_to_the_greatest(self):
        calls = [("begin", 1, 0, 2, 4, 1)]
        calls += [*hears(0, 0, 0, 10), *hears(0, 1, 5, 6), ("stamp", 0)]
        self.assertEqual(last_told(*calls), [-6])
        calls += [*hears(0, 2, 50, 60), *hears(0, 3, 55, 70), ("stamp", 0), ("settle", 0)]
        self.assertEqual(told(*calls)[-2:], [[0, 60], [-7]])

    def test_a_refusal_changes_nothing(self):
        self.assertEqual(seen(world_after(ONE, ("stamp", 0), ("stamp", 1))), seen(world_after(ONE)))

    def test_a_stopped_node(self):
        for calls in ([ONE, *heard(0, 0)], [ONE]):
            world = world_after(*calls)
            world.nodes[0].runs = False
            before = seen(world)
            self.assertEqual(answer_on(world, "stamp", 0), [-3])
            self.assertEqual(answer_on(world, "stamp", 1), [-1])
            self.assertEqual(seen(world), before)


class Settle(unittest.TestCase):
    def test_only_when_the_least_is_above_the_value(self):
        calls = [ONE, *heard(0, 0), ("stamp", 0), ("settle", 0)]
        calls += [("pass", 1, [1]), ("settle", 0), ("pass", 1, [1]), ("settle", 0), ("pass", 1, [1]), ("settle", 0)]
        self.assertEqual(told(*calls)[4:], [[0, 3], [-7], [3], [-7], [4], [-7], [5], [3]])

    def test_past_already_at_the_second_time(self):
        calls = [ONE, *heard(0, 0), ("stamp", 0), ("pass", 9, [9]), ("settle", 0), ("settle", 0), ("settle", 0)]
        self.assertEqual(told(*calls)[-3:], [[3], [-2], [-2]])

    def test_a_stamp_that_is_not_there(self):
        calls = [ONE, ("settle", 0), *heard(0, 0), ("stamp", 0), ("pass", 9, [9])]
        calls += [("settle", 1), ("settle", 200), ("settle", 0)]
        self.assertEqual([told(*calls)[1]] + told(*calls)[-3:], [[-1], [-1], [-1], [3]])

    def test_each_by_its_own_node(self):
        calls = [("begin", 1, 0, 0, 1, 2), *hears(0, 0, 3, 3), *hears(1, 0, 2, 3), ("stamp", 0), ("stamp", 1)]
        calls += [("pass", 1, [1, 1]), ("settle", 1), ("settle", 0)]
        self.assertEqual(told(*calls)[-2:], [[-7], [3]])

    def test_in_any_order(self):
        calls = [ONE, *heard(0, 0), ("stamp", 0), ("stamp", 0), ("pass", 9, [9]), ("settle", 1), ("settle", 0)]
        self.assertEqual(told(*calls)[-2:], [[4], [3]])

    def test_the_time_unknown(self):
        known = [("begin", 1, 0, 0, 2, 1), *hears(0, 0, 10, 20), ("stamp", 0), ("stamp", 0), ("pass", 50, [50])]
        calls = known + [("settle", 0), *hears(0, 1, 500, 600), ("settle", 1), ("settle", 0), ("settle", 2)]
        self.assertEqual(told(*calls)[-3:], [[-6], [-2], [-1]])
        self.assertEqual(last_told(*known, ("settle", 1)), [21])

    def test_the_least_is_the_least_that_enough_have(self):
        calls = [("begin", 1, 0, 1, 3, 1), *hears(0, 0, 0, 4), *hears(0, 1, 2, 4), ("stamp", 0), ("stamp", 0)]
        calls += [*hears(0, 0, 5, 30), *hears(0, 1, 6, 30), ("settle", 0), ("settle", 1)]
        self.assertEqual(told(*calls)[-2:], [[4], [-7]])
        self.assertEqual(last_told(*calls, *hears(0, 2, 7, 7), ("settle", 1)), [5])

    def test_a_refusal_changes_nothing(self):
        calls = [ONE, *heard(0, 0), ("stamp", 0)]
        self.assertEqual(seen(world_after(*calls, ("settle", 0), ("settle", 1))), seen(world_after(*calls)))
        calls += [("pass", 9, [9]), ("settle", 0)]
        self.assertEqual(seen(world_after(*calls, ("settle", 0))), seen(world_after(*calls)))

    def test_a_stopped_node(self):
        world = world_after(ONE, *heard(0, 0), ("stamp", 0), ("stamp", 0), ("pass", 9, [9]), ("settle", 0))
        world.nodes[0].runs = False
        self.assertEqual([answer_on(world, "settle", stamp) for stamp in (0, 1, 2)], [[-3], [-3], [-1]])
        world.nodes[0].runs = True
        self.assertEqual([answer_on(world, "settle", stamp) for stamp in (0, 1, 2)], [[-2], [4], [-1]])

    def test_events_are_counted_together(self):
        calls = [ONE, *heard(0, 0), ("stamp", 0), ("settle", 0), ("stamp", 0), ("pass", 9, [9]), ("settle", 1)]
        calls += [("settle", 1), ("stamp", 0), ("settle", 0)]
        self.assertEqual(seen(world_after(*calls).stamps), [
            {"node": 0, "value": 3, "given": 0, "past": 4},
            {"node": 0, "value": 4, "given": 1, "past": 2},
            {"node": 0, "value": 12, "given": 3, "past": None},
        ])


if __name__ == "__main__":
    unittest.main()
