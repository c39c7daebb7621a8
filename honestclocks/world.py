"""The program's one function for use from outside: the answers to a list of calls."""

from honestclocks.calls import Line, answer_to

# How many whole numbers each call is handed ahead of its row, by the call's number.
NUMBERS = (5, 1, 2, 3, 2, 1, 1, 1, 1, 1, 1, 1, 0, 1, 1, 1, 0)

PASS = 1


def end_of_call(calls, place):
    """The place behind the call that begins at the place."""
    end = place + 1 + NUMBERS[calls[place]]
    if calls[place] == PASS:
        end = end + 1 + calls[end]
    return end


def answers(calls):
    """Of each call, in order: how many numbers are answered, then these."""
    line = Line()
    result = []
    place = 0
    while place < len(calls):
        end = end_of_call(calls, place)
        answer = answer_to(line, calls[place], calls[place + 1:end])
        result.append(len(answer))
        result.extend(answer)
        place = end
    return result
