"""Spans: between what and what the time lies, and how a span grows while a clock goes on."""


class Span:
    """From a least to a greatest number, both within. A span is never changed once it is made."""

    def __init__(self, least, greatest):
        self.least = least
        self.greatest = greatest


def least_passed(by_clock, wrong):
    """The least that can have passed in truth while a clock went on by so much, rounded up."""
    return (1000 * by_clock + 999 + wrong) // (1000 + wrong)


def most_passed(by_clock, wrong):
    """The most that can have passed in truth while a clock went on by so much, rounded down."""
    return 1000 * by_clock // (1000 - wrong)


def grown(span, by_clock, wrong):
    """Where the time lies now, if it lay in the span when the clock was so much less."""
    least = span.least + least_passed(by_clock, wrong)
    greatest = span.greatest + most_passed(by_clock, wrong)
    return Span(least, greatest)


def common(one, other):
    """What both spans have in them; None where they have no number in common."""
    least = max(one.least, other.least)
    greatest = min(one.greatest, other.greatest)
    if greatest < least:
        return None
    return Span(least, greatest)


def holders(spans, number):
    """How many of the spans have the number in them."""
    return len([span for span in spans if span.least <= number <= span.greatest])


def agreed(spans, enough):
    """From the least to the greatest number that enough of the spans have; None if there is none."""
    # Going up, a number gains a holder only where a span begins, and loses one only behind a span's end:
    # so the least such number is some span's least, and the greatest is some span's greatest.
    lows = [span.least for span in spans if holders(spans, span.least) >= enough]
    highs = [span.greatest for span in spans if holders(spans, span.greatest) >= enough]
    if len(lows) == 0:
        return None
    return Span(min(lows), max(highs))
