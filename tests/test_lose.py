import unittest

from helper import answer_on, last_told, seen, told, world_after

WORLD = ("begin", 1, 0, 0, 2, 2)
# The row: asks of node 0 to master 0, of node 1 to master 1, of node 0 to master 1.
THREE = [WORLD, ("ask", 0, 0), ("ask", 1, 1), ("ask", 0, 1)]


class Lose(unittest.TestCase):
    def test_it_is_out_and_those_behind_it_move_up(self):
        self.assertEqual(last_told(*THREE, ("letters",)), [3, 0, 0, 0, 1, 0, 1, 1, 1, 0, 0, 1, 2])
        for letter, row in (
            (0, [2, 0, 1, 1, 1, 0, 0, 1, 2]), (1, [2, 0, 0, 0, 1, 0, 0, 1, 2]), (2, [2, 0, 0, 0, 1, 0, 1, 1, 1]),
        ):
            self.assertEqual(told(*THREE, ("lose", letter), ("letters",))[-2:], [[0], row], letter)

    def test_one_after_another(self):
        calls = [*THREE, ("lose", 0), ("lose", 0), ("letters",), ("lose", 0), ("letters",), ("lose", 0)]
        self.assertEqual(told(*calls)[-6:], [[0], [0], [1, 0, 0, 1, 2], [0], [0], [-1]])

    def test_what_moved_up_is_handed_over_by_its_new_place(self):
        calls = [*THREE, ("lose", 0), ("take", 1), ("letters",)]
        self.assertEqual(told(*calls)[-2:], [[1], [2, 0, 1, 1, 1, 1, 0, 1, 2, 1, 3]])

    def test_nothing_comes_of_a_lost_ask(self):
        calls = [WORLD, ("ask", 0, 1), ("lose", 0)]
        self.assertEqual(last_told(*calls, ("letters",)), [0])
        self.assertEqual(last_told(*calls, ("node", 0)), [1, 0, 0, 1, 1, 1, 1, 0, -1, -1, -1, -1, -1, -1])

    def test_nothing_comes_of_a_lost_answer(self):
        calls = [WORLD, ("ask", 0, 1), ("keep", 0), ("lose", 1)]
        self.assertEqual(last_told(*calls, ("letters",)), [1, 0, 0, 1, 1])
        self.assertEqual(last_told(*calls, ("node", 0)), [1, 0, 0, 1, 1, 1, 1, 0, -1, -1, -1, -1, -1, -1])
        self.assertEqual(told(*calls, ("take", 0), ("take", 0))[-2:], [[1], [2]])

    def test_only_the_row_is_changed(self):
        calls = [*THREE, ("keep", 1), ("pass", 5, [5, 5])]
        for letter in range(4):
            before = seen(world_after(*calls))
            before["letters"].pop(letter)
            self.assertEqual(seen(world_after(*calls, ("lose", letter))), before)

    def test_a_letter_that_is_not_there(self):
        calls = [WORLD, ("lose", 0), ("lose", 200), ("ask", 0, 0), ("lose", 1), ("lose", 200), ("lose", 0)]
        self.assertEqual(told(*calls), [[0], [-1], [-1], [1], [-1], [-1], [0]])
        self.assertEqual(seen(world_after(*THREE, ("lose", 3))), seen(world_after(*THREE)))

    def test_it_makes_room(self):
        world = world_after(WORLD)
        for number in range(1, 102):
            self.assertEqual(answer_on(world, "ask", 0, 0), [number])
        self.assertEqual(answer_on(world, "lose", 99), [0])
        self.assertEqual(answer_on(world, "ask", 0, 1), [102])
        self.assertEqual(answer_on(world, "letters")[0], 100)
        self.assertEqual(answer_on(world, "letters")[-8:], [0, 0, 0, 99, 0, 0, 1, 102])
        self.assertEqual(answer_on(world, "lose", 100), [-1])


if __name__ == "__main__":
    unittest.main()
