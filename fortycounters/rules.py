"""Rules: what is taken of the forty counters, and what is given to them."""

COUNTERS = 40
HIGHEST = 2147483647


class Rule:
    """One rule; its first half of amounts is what it takes, its second half what it gives."""

    def __init__(self, amounts):
        half = len(amounts) // 2
        taken = amounts[:half]
        given = amounts[half:]
        self.taken = taken
        self.given = given
        # Counters that the rule leaves alone are left out: most rules touch few of the forty.
        self.takes = [(i, taken[i]) for i in range(half) if taken[i] > 0]
        # Only what a step comes to counts against the bound, so taking and giving are one change.
        self.changes = [(i, given[i] - taken[i]) for i in range(half) if given[i] != taken[i]]

    def fits(self, counters):
        """Whether each counter has as much as the rule takes."""
        for i, amount in self.takes:
            if counters[i] < amount:
                return False
        return True

    def goes_too_high(self, counters):
        """Whether a step by the rule would bring a counter above the bound."""
        for i, amount in self.changes:
            if counters[i] + amount > HIGHEST:
                return True
        return False


def one_each(taken, given):
    """The rule that takes 1 of each of the taken counters and gives 1 to each of the given ones."""
    amounts = [0] * (2 * COUNTERS)
    for i in taken:
        amounts[i] = 1
    for i in given:
        amounts[COUNTERS + i] = 1
    return Rule(amounts)
