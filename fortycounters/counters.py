"""The machine: forty counters, and the rules that take of them and give to them."""

COUNTERS = 40
HIGHEST = 2147483647
MOST_RULES = 64
MOST_STEPS = 1000000000

OUT_OF_RANGE = -1
RULES_ARE_FULL = -2
NONE_FITS = -2
TOO_HIGH = -3

ALL_DONE = 0
STOPPED_NONE_FITS = 1
STOPPED_TOO_HIGH = 2


class Rule:
    """One rule; its first half of amounts is what it takes, its second half what it gives."""

    def __init__(self, amounts):
        half = len(amounts) // 2
        taken = amounts[:half]
        given = amounts[half:]
        # Counters that the rule leaves alone are left out: most rules touch few of the forty.
        self.takes = [(i, taken[i]) for i in range(half) if taken[i] > 0]
        # Only what a step comes to counts against the bound, so taking and giving are one change.
        self.changes = [(i, given[i] - taken[i]) for i in range(half) if given[i] != taken[i]]

    def fits(self, counters):
        """Whether each counter has as much as the rule takes."""
        for i, amount in self.takes:
            if counters[i] < amount:
                return False
        return True

    def goes_too_high(self, counters):
        """Whether a step by the rule would bring a counter above the bound."""
        for i, amount in self.changes:
            if counters[i] + amount > HIGHEST:
                return True
        return False


def is_counter(i):
    """Whether there is a counter i."""
    return i >= 0 and i < COUNTERS


class Machine:
    """Counters and rules. Each call answers one number, run a list of numbers."""

    def __init__(self):
        self.counters = [0] * COUNTERS
        self.rules = []

    def add_rule(self, amounts):
        """Add a rule behind the others; how many there are then."""
        if len(amounts) % 2 != 0:
            return OUT_OF_RANGE
        if len(self.rules) >= MOST_RULES:
            return RULES_ARE_FULL
        self.rules.append(Rule(amounts))
        return len(self.rules)

    def put(self, i, v):
        """Give counter i the amount v."""
        if not is_counter(i) or v < 0:
            return OUT_OF_RANGE
        self.counters[i] = v
        return 0

    def get(self, i):
        """What counter i has."""
        if not is_counter(i):
            return OUT_OF_RANGE
        return self.counters[i]

    def step(self):
        """Take a step by the first rule that fits; that rule's number."""
        for place, rule in enumerate(self.rules):
            if rule.fits(self.counters):
                if rule.goes_too_high(self.counters):
                    return TOO_HIGH
                self.take_and_give(rule)
                return place
        return NONE_FITS

    def take_and_give(self, rule):
        """Let the rule take and give."""
        for i, amount in rule.changes:
            self.counters[i] = self.counters[i] + amount

    def run(self, k):
        """Take k steps, or as many as there can be; why it ended, and how many were done."""
        if k < 0 or k > MOST_STEPS:
            return [OUT_OF_RANGE]
        for done in range(k):
            answer = self.step()
            if answer == NONE_FITS:
                return [STOPPED_NONE_FITS, done]
            if answer == TOO_HIGH:
                return [STOPPED_TOO_HIGH, done]
        return [ALL_DONE, k]
