"""The calls on a machine, laid into one list of whole numbers, and their answers, laid into one."""

from fortycounters.counters import Machine

BEGIN = 0
RULE = 1
PUT = 2
GET = 3
STEP = 4
RUN = 5
ALONE = 6
NUMBER = 7
RATIO = 8
CODE = 9
MADE = 10
GO = 11


class Reader:
    """A list of calls, read from its beginning to its end."""

    def __init__(self, calls):
        self.calls = calls
        self.at = 0

    def has_more(self):
        """Whether something is still unread."""
        return self.at < len(self.calls)

    def read_number(self):
        """The number that comes now."""
        number = self.calls[self.at]
        self.at = self.at + 1
        return number

    def read_row(self):
        """The numbers that come now, before which stands how many they are."""
        length = self.read_number()
        row = self.calls[self.at:self.at + length]
        self.at = self.at + length
        return row


def answer_call(machine, call, reader):
    """What the machine answers to a call, whose numbers and rows come from the reader."""
    if call == RULE:
        return [machine.add_rule(reader.read_row())]
    if call == PUT:
        i = reader.read_number()
        v = reader.read_number()
        return [machine.put(i, v)]
    if call == GET:
        return [machine.get(reader.read_number())]
    if call == STEP:
        return [machine.step()]
    if call == RUN:
        return machine.run(reader.read_number())
    if call == ALONE:
        i = reader.read_number()
        k = reader.read_number()
        return machine.alone(i, k)
    if call == NUMBER:
        return machine.number()
    if call == RATIO:
        return machine.ratio(reader.read_number())
    if call == CODE:
        return [machine.set_code(reader.read_row())]
    if call == MADE:
        return [machine.make_rules()]
    if call == GO:
        return machine.go(reader.read_number())
    # How much belongs to an unknown call isn't known, so nothing behind it could be read right.
    raise KeyError(call)


def answers(calls):
    """For each call, in order: how many numbers are answered, then these numbers."""
    reader = Reader(calls)
    machine = Machine()
    told = []
    while reader.has_more():
        call = reader.read_number()
        if call == BEGIN:
            machine = Machine()
            answer = [0]
        else:
            answer = answer_call(machine, call, reader)
        told.append(len(answer))
        told.extend(answer)
    return told
