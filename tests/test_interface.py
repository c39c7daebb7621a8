import unittest

from helper import heard, numbers_of
from honestclocks.world import answers

CALLS = [
    ("begin", 1, 100, 0, 2, 2), ("begin", 101, 0, 0, 1, 1), ("pass", 10, [9, 11]), ("pass", 10, []), ("skew", 1, 2),
    ("lie", 0, 11, 40), *heard(0, 0), *heard(0, 1), ("stamp", 0), ("settle", 0), ("ask", 1, 1), ("keep", 0),
    ("pass", 500, [500, 500]), ("settle", 0), ("take", 0), ("keep", 0), ("take", 0), ("take", 7), ("stamp", 1),
]


class Watched(list):
    """A list that refuses every change."""

    def refuse(self, *args, **kwargs):
        raise AssertionError("what is handed in was changed")

    append = extend = insert = pop = remove = clear = sort = reverse = refuse
    __setitem__ = __delitem__ = __iadd__ = __imul__ = refuse


class Interface(unittest.TestCase):
    def numbers(self):
        return [number for call in CALLS for number in numbers_of(call)]

    def test_how_calls_and_answers_stand_in_their_lists(self):
        calls = [0, 1, 0, 0, 1, 2, 1, 5, 2, 5, 5, 1, 5, 0, 4, 0, 0, 7, 0, 8, 0, 5, 0, 7, 1]
        self.assertEqual(answers(calls), [1, 0, 1, 7, 1, -1, 1, 1, 1, 1, 1, 2, 2, 0, 8, 1, -1])

    def test_a_list_of_ten_steps_is_read_to_its_end(self):
        self.assertEqual(answers([0, 0, 0, 0, 1, 1, 1, 5] + [10] + [0] * 10 + [4, 0, 0]), [1, 0, 1, -1, 1, 1])
        self.assertEqual(answers([1, 5, 10] + [0] * 10 + [4, 0, 0]), [1, -9, 1, -9])

    def test_what_is_handed_in_is_as_it_was(self):
        calls = self.numbers()
        before = list(calls)
        answers(calls)
        self.assertEqual(calls, before)

    def test_what_is_handed_in_is_not_changed_for_a_while_either(self):
        self.assertEqual(answers(Watched(self.numbers())), answers(self.numbers()))

    def test_nothing_is_kept_from_one_time_to_the_next(self):
        calls = self.numbers()
        first = answers(calls)
        kept = list(first)
        answers([0, 5, 0, 0, 1, 1, 3, 0, 1, 2])
        self.assertEqual(answers([4, 0, 0]), [1, -9])
        second = answers(calls)
        self.assertEqual(second, kept)
        first.append(5)
        self.assertEqual(second, kept)
        self.assertEqual(answers(calls), kept)

    def test_plain_whole_numbers_in_a_plain_list(self):
        result = answers(self.numbers())
        self.assertIs(type(result), list)
        self.assertEqual({type(number) for number in result}, {int})

    def test_a_hundred_calls(self):
        calls = [0, 0, 0, 0, 1, 1] + [4, 0, 0] * 99
        expected = [1, 0] + [number for k in range(1, 100) for number in (1, k)]
        self.assertEqual(answers(calls), expected)


if __name__ == "__main__":
    unittest.main()
