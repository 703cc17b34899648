"""The one function of the interface: calls in, answers out."""

from spreadmeans.calls import answer
from spreadmeans.spreads import Spread

# By a call's number: how many whole numbers it has ahead of its row.
PLAIN_NUMBERS = (1, 3, 1, 4, 2, 0, 0, 0, 0, 0, 1, 0, 0, 2, 2, 5, 0)
WITH_A_ROW = (2, 6, 16)


def answers(calls):
    """What is answered to each call, in order, with how many numbers there are before it."""
    spread = Spread()
    told = []
    at = 0
    while at < len(calls):
        number = calls[at]
        row_at = at + 1 + PLAIN_NUMBERS[number]
        numbers = calls[at + 1:row_at]
        row = []
        at = row_at
        if number in WITH_A_ROW:
            at = row_at + 1 + calls[row_at]
            row = calls[row_at + 1:at]
        answered = answer(spread, number, numbers, row)
        told.append(len(answered))
        told.extend(answered)
    return told
