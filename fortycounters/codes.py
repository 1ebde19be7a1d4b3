"""Codes: instructions over the registers, and the rules that they are made into."""

from fortycounters.rules import one_each

BYTES = 4
STOP = 0
ONE_MORE = 1
ONE_LESS = 2

# The registers are the counters ahead of this.
REGISTERS = 8
# Counter NOW + i has 1 while instruction i is the next.
NOW = 8
# Counter SOON + i has 1 between two instructions: were i next at once, an instruction that's followed by itself
# would take of and give to the same counter, which a fraction doesn't tell.
SOON = 24


class Instruction:
    """One instruction, told by its four bytes."""

    def __init__(self, told):
        self.kind = told[0]
        self.counter = told[1]
        self.then = told[2]
        self.otherwise = told[3]

    def is_one_of(self, length):
        """Whether it is an instruction in a code that has so many."""
        if self.kind == STOP:
            return True
        if self.kind > ONE_LESS or self.counter >= REGISTERS or self.then >= length:
            return False
        return self.kind == ONE_MORE or self.otherwise < length

    def rules_at(self, i):
        """The rules by which it's done as instruction i of its code."""
        now = NOW + i
        then = SOON + self.then
        if self.kind == STOP:
            return []
        if self.kind == ONE_MORE:
            return [one_each([now], [self.counter, then])]
        return [one_each([self.counter, now], [then]), one_each([now], [SOON + self.otherwise])]


def instructions_of(row):
    """The instructions that the bytes tell."""
    return [Instruction(row[at:at + BYTES]) for at in range(0, len(row), BYTES)]


def are_code(instructions):
    """Whether each of them is an instruction among them all."""
    length = len(instructions)
    return all([instruction.is_one_of(length) for instruction in instructions])


def rules_of(instructions):
    """The code's rules, in their order."""
    rules = []
    for i, instruction in enumerate(instructions):
        rules.extend(instruction.rules_at(i))
    for i in range(len(instructions)):
        rules.append(one_each([SOON + i], [NOW + i]))
    return rules
