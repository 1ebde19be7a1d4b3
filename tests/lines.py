"""Helper of the tests: lays calls into one list, and takes the list of answers apart."""

from fortycounters.machine import answers

HIGHEST = 2147483647
LOWEST = -2147483648


def begin():
    return [0]


def rule(taken, given):
    """A rule told by two lists of amounts; the shorter one is filled up with noughts."""
    half = max(len(taken), len(given))
    return row_rule(filled(taken, half) + filled(given, half))


def row_rule(row):
    """A rule told by its row as it stands, whatever that is."""
    return [1, len(row)] + row


def filled(amounts, length):
    return amounts + [0] * (length - len(amounts))


def put(i, v):
    return [2, i, v]


def get(i):
    return [3, i]


def step():
    return [4]


def run(k):
    return [5, k]


def get_all():
    """Forty calls, one for each counter."""
    return [get(i) for i in range(40)]


def told(*calls):
    """The answers to begin and then these calls, a list each; begin's own is checked and left out."""
    laid = begin()
    for call in calls:
        laid = laid + call
    apart = taken_apart(answers(laid))
    if len(apart) != len(calls) + 1 or apart[0] != [0]:
        raise AssertionError(f"begin and {len(calls)} calls were answered by {apart}")
    return apart[1:]


def taken_apart(numbers):
    apart = []
    at = 0
    while at < len(numbers):
        length = numbers[at]
        apart.append(numbers[at + 1:at + 1 + length])
        at = at + 1 + length
    if at != len(numbers):
        raise AssertionError(f"the last answer is cut off: {numbers}")
    return apart
