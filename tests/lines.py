"""Helper of the tests: lays calls into one list, and takes the list of answers apart."""

from fortycounters.machine import answers

HIGHEST = 2147483647
LOWEST = -2147483648
PRIMES = [p for p in range(2, 174) if all(p % q > 0 for q in range(2, p))]


def begin():
    return [0]


def rule(taken, given):
    """A rule told by two lists of amounts; the shorter one is filled up with noughts."""
    half = max(len(taken), len(given))
    return row_rule(filled(taken, half) + filled(given, half))


def row_rule(row):
    """A rule told by its row as it stands, whatever that is."""
    return [1, len(row)] + row


def filled(amounts, length):
    return amounts + [0] * (length - len(amounts))


def put(i, v):
    return [2, i, v]


def get(i):
    return [3, i]


def step():
    return [4]


def run(k):
    return [5, k]


def alone(i, k):
    return [6, i, k]


def number():
    return [7]


def ratio(i):
    return [8, i]


def code(*instructions):
    """A code told by its instructions, four numbers each."""
    return row_code([byte for instruction in instructions for byte in instruction])


def row_code(row):
    """A code told by its row as it stands, whatever that is."""
    return [9, len(row)] + row


def stop():
    return [0, 0, 0, 0]


def one_more(r, j):
    return [1, r, j, 0]


def one_less(r, j, k):
    return [2, r, j, k]


def made():
    return [10]


def go(k):
    return [11, k]


def get_all():
    """Forty calls, one for each counter."""
    return [get(i) for i in range(40)]


def exponents(whole):
    """The amounts of which a number is the number."""
    amounts = [0] * 40
    for i, prime in enumerate(PRIMES):
        while whole % prime == 0:
            whole = whole // prime
            amounts[i] = amounts[i] + 1
    if whole != 1:
        raise AssertionError(f"{whole} is left over, which has no prime up to 173")
    return amounts


def fraction(given, taken):
    """The rule that a fraction tells."""
    return rule(exponents(taken), exponents(given))


def told(*calls):
    """The answers to begin and then these calls, a list each; begin's own is checked and left out."""
    laid = begin()
    for call in calls:
        laid = laid + call
    apart = taken_apart(answers(laid))
    if len(apart) != len(calls) + 1 or apart[0] != [0]:
        raise AssertionError(f"begin and {len(calls)} calls were answered by {apart}")
    return apart[1:]


def taken_apart(numbers):
    apart = []
    at = 0
    while at < len(numbers):
        length = numbers[at]
        apart.append(numbers[at + 1:at + 1 + length])
        at = at + 1 + length
    if at != len(numbers):
        raise AssertionError(f"the last answer is cut off: {numbers}")
    return apart
