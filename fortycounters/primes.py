"""The number of some amounts: the product of the primes, each as often as its counter's amount."""

PRIMES = (
    2, 3, 5, 7, 11, 13, 17, 19, 23, 29,
    31, 37, 41, 43, 47, 53, 59, 61, 67, 71,
    73, 79, 83, 89, 97, 101, 103, 107, 109, 113,
    127, 131, 137, 139, 149, 151, 157, 163, 167, 173,
)
# 2^64: a number is told by its rest by this.
BOUND = 18446744073709551616


def power_rest(base, exponent):
    """The rest of the base taken so often."""
    power = 1
    square = base
    left = exponent
    # By squares, since an amount may be above two milliards.
    while left > 0:
        if left % 2 == 1:
            power = power * square % BOUND
        square = square * square % BOUND
        left = left // 2
    return power


def number_rest(amounts):
    """The rest of the number of these amounts, which are of counters 0, 1 and so on."""
    number = 1
    for i, amount in enumerate(amounts):
        number = number * power_rest(PRIMES[i], amount) % BOUND
    return number
