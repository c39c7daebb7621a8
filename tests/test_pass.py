import unittest

from helper import answer_on, heard, last_told, seen, told, world_after


class Pass(unittest.TestCase):
    def test_it_answers_the_true_time(self):
        calls = [("begin", 3, 0, 0, 1, 1), ("pass", 4, [4]), ("pass", 0, [0]), ("pass", 10, [10])]
        self.assertEqual(told(*calls), [[0], [10], [10], [20]])

    def test_d_is_1000_at_most(self):
        begin = ("begin", 0, 0, 0, 1, 1)
        self.assertEqual(last_told(begin, ("pass", 1000, [1000])), [1000])
        self.assertEqual(last_told(begin, ("pass", 1001, [1001])), [-1])
        self.assertEqual(last_told(begin, ("pass", 2000, [2000])), [-1])

    def test_a_number_for_each_node(self):
        for nodes in (1, 2, 3):
            for many in range(11):
                answer = last_told(("begin", 0, 0, 0, 1, nodes), ("pass", 5, [5] * many))
                self.assertEqual(answer, [5] if many == nodes else [-1], (nodes, many))

    def test_a_clock_goes_wrong_by_w_at_the_most(self):
        for w, d, least, greatest in (
            (0, 7, 7, 7), (200, 5, 4, 6), (200, 7, 6, 8), (1, 1000, 999, 1001), (1, 999, 999, 999), (200, 1, 1, 1),
            (100, 0, 0, 0), (200, 1000, 800, 1200),
        ):
            begin = ("begin", 0, w, 0, 1, 1)
            for step in (least, greatest):
                self.assertEqual(last_told(begin, ("pass", d, [step])), [d], (w, d, step))
            for step in (least - 1, greatest + 1):
                if step >= 0:
                    self.assertEqual(last_told(begin, ("pass", d, [step])), [-1], (w, d, step))

    def test_every_clock_is_looked_at(self):
        begin = ("begin", 0, 200, 0, 1, 3)
        self.assertEqual(last_told(begin, ("pass", 5, [4, 5, 6])), [5])
        for steps in ([3, 5, 5], [5, 7, 5], [5, 5, 3], [5, 5, 7]):
            self.assertEqual(last_told(begin, ("pass", 5, steps)), [-1], steps)

    def test_each_clock_goes_on_by_its_own_number(self):
        world = world_after(("begin", 0, 200, 0, 1, 3), ("pass", 5, [4, 5, 6]), ("pass", 10, [12, 8, 10]))
        self.assertEqual([node.clock for node in world.nodes], [16, 13, 16])

    def test_clocks_of_stopped_nodes_go_on_too(self):
        world = world_after(("begin", 0, 0, 0, 1, 2))
        world.nodes[1].runs = False
        self.assertEqual(answer_on(world, "pass", 5, [5, 5]), [5])
        self.assertEqual([node.clock for node in world.nodes], [5, 5])
        self.assertEqual(answer_on(world, "pass", 5, [5]), [-1])

    def test_a_refusal_changes_nothing(self):
        before = [("begin", 1, 200, 0, 1, 2), ("pass", 5, [4, 6]), *heard(0, 0)]
        for call in (("pass", 1001, [1001, 1001]), ("pass", 5, [5]), ("pass", 5, [5, 5, 5]), ("pass", 5, [5, 7])):
            self.assertEqual(last_told(*before, call), [-1])
            self.assertEqual(seen(world_after(*before, call)), seen(world_after(*before)), call)


if __name__ == "__main__":
    unittest.main()
