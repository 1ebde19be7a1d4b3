"""The machine: forty counters, the rules that take of them and give to them, and a code of instructions."""

from fortycounters.codes import BYTES, NOW, ONE_MORE, REGISTERS, STOP, are_code, instructions_of, rules_of
from fortycounters.primes import number_rest
from fortycounters.rules import COUNTERS, HIGHEST, Rule

MOST_RULES = 64
MOST_STEPS = 1000000000

OUT_OF_RANGE = -1
RULES_ARE_FULL = -2
NONE_FITS = -2
TOO_HIGH = -3
NO_INSTRUCTION = -2

ALL_DONE = 0
STOPPED_NONE_FITS = 1
STOPPED_AT_STOP = 1
STOPPED_TOO_HIGH = 2
LEFT_ALONE = 3


def is_counter(i):
    """Whether there is a counter i."""
    return i >= 0 and i < COUNTERS


def may_be_asked(k):
    """Whether k steps, or k instructions, can be asked for."""
    return k >= 0 and k <= MOST_STEPS


class Machine:
    """Counters, rules and a code. Each call answers one number, or a list of numbers where more is told."""

    def __init__(self):
        self.counters = [0] * COUNTERS
        self.rules = []
        self.instructions = []
        self.next_instruction = 0

    def add_rule(self, amounts):
        """Add a rule behind the others; how many there are then."""
        if len(amounts) % 2 != 0:
            return OUT_OF_RANGE
        if len(self.rules) >= MOST_RULES:
            return RULES_ARE_FULL
        self.rules.append(Rule(amounts))
        return len(self.rules)

    def put(self, i, v):
        """Give counter i the amount v."""
        if not is_counter(i) or v < 0:
            return OUT_OF_RANGE
        self.counters[i] = v
        return 0

    def get(self, i):
        """What counter i has."""
        if not is_counter(i):
            return OUT_OF_RANGE
        return self.counters[i]

    def step(self):
        """Take a step by the first rule that fits; that rule's number."""
        for place, rule in enumerate(self.rules):
            if rule.fits(self.counters):
                if rule.goes_too_high(self.counters):
                    return TOO_HIGH
                self.take_and_give(rule)
                return place
        return NONE_FITS

    def take_and_give(self, rule):
        """Let the rule take and give."""
        for i, amount in rule.changes:
            self.counters[i] = self.counters[i] + amount

    def run(self, k):
        """Take k steps, or as many as there can be; why it ended, and how many were done."""
        if not may_be_asked(k):
            return [OUT_OF_RANGE]
        for done in range(k):
            answer = self.step()
            if answer == NONE_FITS:
                return [STOPPED_NONE_FITS, done]
            if answer == TOO_HIGH:
                return [STOPPED_TOO_HIGH, done]
        return [ALL_DONE, k]

    def alone(self, i, k):
        """Take steps till counter i alone has something, k at the most; why it ended, and how many were done."""
        if not is_counter(i) or not may_be_asked(k):
            return [OUT_OF_RANGE]
        for done in range(k):
            ended = self.run(1)[0]
            if ended != ALL_DONE:
                return [ended, done]
            # No counter is below 0: the others are all 0 just when all together have what i has.
            if sum(self.counters) == self.counters[i]:
                return [LEFT_ALONE, done + 1]
        return [ALL_DONE, k]

    def number(self):
        """The counters' number, by its rest."""
        return [0, number_rest(self.counters)]

    def ratio(self, i):
        """The numbers of what rule i gives and of what it takes, by their rests."""
        if i < 0 or i >= len(self.rules):
            return [OUT_OF_RANGE]
        rule = self.rules[i]
        return [0, number_rest(rule.given), number_rest(rule.taken)]

    def set_code(self, row):
        """Have the code that the bytes tell, from its first instruction on; how many instructions it has."""
        if len(row) % BYTES != 0:
            return OUT_OF_RANGE
        instructions = instructions_of(row)
        if not are_code(instructions):
            return NO_INSTRUCTION
        self.instructions = instructions
        self.next_instruction = 0
        return len(instructions)

    def make_rules(self):
        """Have the code's rules for rules, and the counters as these need them; how many rules there are."""
        self.rules = rules_of(self.instructions)
        self.counters = self.counters[:REGISTERS] + [0] * (COUNTERS - REGISTERS)
        self.counters[NOW + self.next_instruction] = 1
        return len(self.rules)

    def go(self, k):
        """Do k instructions, or as many as there can be; why it ended, and how many were done."""
        if not may_be_asked(k):
            return [OUT_OF_RANGE]
        for done in range(k):
            ended = self.do_instruction()
            if ended != ALL_DONE:
                return [ended, done]
        return [ALL_DONE, k]

    def do_instruction(self):
        """Do the next instruction, or tell why it can't be done."""
        if len(self.instructions) == 0:
            return STOPPED_AT_STOP
        instruction = self.instructions[self.next_instruction]
        if instruction.kind == STOP:
            return STOPPED_AT_STOP
        if instruction.kind == ONE_MORE:
            return self.do_one_more(instruction)
        self.do_one_less(instruction)
        return ALL_DONE

    def do_one_more(self, instruction):
        """One more in the instruction's counter, or tell why that can't be."""
        has = self.counters[instruction.counter]
        if has >= HIGHEST:
            return STOPPED_TOO_HIGH
        self.counters[instruction.counter] = has + 1
        self.next_instruction = instruction.then
        return ALL_DONE

    def do_one_less(self, instruction):
        """One less in the instruction's counter, if it has something; what's next tells which it was."""
        has = self.counters[instruction.counter]
        if has == 0:
            self.next_instruction = instruction.otherwise
        else:
            self.counters[instruction.counter] = has - 1
            self.next_instruction = instruction.then
