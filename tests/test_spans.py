import unittest
from fractions import Fraction
from itertools import product
from math import ceil, floor

from honestclocks.spans import Span, agreed, common, grown


def ends(span):
    return None if span is None else (span.least, span.greatest)


def span_of(numbers):
    return (min(numbers), max(numbers)) if numbers else None


class Spans(unittest.TestCase):
    SMALL = [Span(least, greatest) for least in range(4) for greatest in range(least, 4)]

    def test_grown_by_exact_fractions(self):
        for wrong in (0, 1, 7, 100, 199, 200):
            for passed in (*range(60), 799, 800, 801, 999, 1000, 1001, 1200, 100000):
                least = 10 + ceil(Fraction(1000 * passed, 1000 + wrong))
                greatest = 20 + floor(Fraction(1000 * passed, 1000 - wrong))
                self.assertEqual(ends(grown(Span(10, 20), passed, wrong)), (least, greatest), (wrong, passed))

    def test_common_by_walking_every_number(self):
        for one, other in product(self.SMALL, repeat=2):
            both = [n for n in range(4) if one.least <= n <= one.greatest and other.least <= n <= other.greatest]
            self.assertEqual(ends(common(one, other)), span_of(both))

    def test_agreed_by_walking_every_number(self):
        for many in (1, 2, 3, 4):
            for spans in product(self.SMALL, repeat=many):
                holders = [len([s for s in spans if s.least <= n <= s.greatest]) for n in range(4)]
                for enough in range(1, many + 1):
                    expected = span_of([n for n in range(4) if holders[n] >= enough])
                    self.assertEqual(ends(agreed(list(spans), enough)), expected)


if __name__ == "__main__":
    unittest.main()
