import unittest

from helper import answer_on, seen, told, world_after

WORLD = ("begin", 1, 200, 0, 2, 2)


class Ask(unittest.TestCase):
    def test_numbers_go_from_1_on_and_are_each_nodes_own(self):
        calls = [WORLD, ("ask", 0, 0), ("ask", 0, 1), ("ask", 1, 0), ("ask", 0, 0), ("ask", 1, 1)]
        self.assertEqual(told(*calls), [[0], [1], [2], [1], [3], [2]])

    def test_a_node_or_a_master_that_is_not_there(self):
        calls = [WORLD, ("ask", 2, 0), ("ask", 0, 2), ("ask", 9, 9), ("ask", 1, 1)]
        self.assertEqual(told(*calls), [[0], [-1], [-1], [-1], [1]])

    def test_a_refusal_counts_no_number(self):
        self.assertEqual(told(WORLD, ("ask", 0, 2), ("ask", 0, 0)), [[0], [-1], [1]])
        self.assertEqual(seen(world_after(WORLD, ("ask", 0, 2), ("ask", 2, 0))), seen(world_after(WORLD)))

    def test_the_letter_and_what_is_waited_for(self):
        world = world_after(WORLD, ("pass", 5, [4, 6]), ("ask", 1, 0), ("pass", 5, [4, 6]), ("ask", 1, 1))
        self.assertEqual(seen(world.nodes[1].waiting), [
            {"number": 1, "master": 0, "since": 6}, {"number": 2, "master": 1, "since": 12},
        ])
        self.assertEqual(seen(world.letters), [
            {"kind": 0, "node": 1, "master": 0, "number": 1, "span": None},
            {"kind": 0, "node": 1, "master": 1, "number": 2, "span": None},
        ])
        self.assertEqual(world.nodes[1].asked, 2)
        self.assertEqual(world.nodes[0].waiting, [])

    def test_a_stopped_node(self):
        world = world_after(WORLD)
        world.nodes[0].runs = False
        before = seen(world)
        self.assertEqual(answer_on(world, "ask", 0, 0), [-3])
        self.assertEqual(answer_on(world, "ask", 0, 2), [-1])
        self.assertEqual(seen(world), before)
        self.assertEqual(answer_on(world, "ask", 1, 0), [1])


class Room(unittest.TestCase):
    """The row has room for 100, more than a list of 100 calls can send: so here on a world by itself."""

    def full(self):
        world = world_after(WORLD)
        for number in range(1, 101):
            self.assertEqual(answer_on(world, "ask", 0, 0), [number])
        return world

    def test_an_ask_that_finds_no_room_is_lost_but_waited_for(self):
        world = self.full()
        self.assertEqual(len(world.letters), 100)
        self.assertEqual(answer_on(world, "ask", 0, 0), [101])
        self.assertEqual([letter.number for letter in world.letters], list(range(1, 101)))
        self.assertEqual(world.nodes[0].waiting[-1].number, 101)

    def test_an_answer_that_finds_no_room_is_lost(self):
        world = self.full()
        self.assertEqual(answer_on(world, "keep", 0), [1])
        self.assertEqual([letter.kind for letter in world.letters], [0] * 100)

    def test_what_is_taken_out_makes_room_for_its_answer(self):
        world = self.full()
        self.assertEqual(answer_on(world, "take", 0), [1])
        self.assertEqual([letter.kind for letter in world.letters], [0] * 99 + [1])
        self.assertEqual(answer_on(world, "take", 99), [2])
        self.assertEqual(answer_on(world, "take", 99), [-1])


if __name__ == "__main__":
    unittest.main()
