"""Builds stories byte by byte and reads what `answers` tells of them."""

from storymachine.machine import new_machine
from storymachine.steps import run_machine
from storymachine.stories import answers

SIZE = 1024
VARIABLES = 64
BEGIN = 256
THINGS = 400
DICTIONARY = 640
ABBREVIATIONS = 700
FREE = 900


def W(value):
    return (0, value)


def B(value):
    return (1, value)


def V(number):
    return (2, number)


def two_bytes(value):
    return [value // 256, value % 256]


def operand_bytes(operand):
    return two_bytes(operand[1]) if operand[0] == 0 else [operand[1]]


def kinds_byte(operands):
    told = 0
    for place in range(4):
        kind = operands[place][0] if place < len(operands) else 3
        told = 4 * told + kind
    return told


def branch_bytes(way, distance, long=False):
    first = 128 if way else 0
    if not long and 0 <= distance <= 63:
        return [first + 64 + distance]
    return [first + distance % 16384 // 256, distance % 256]


def op(name, *operands, to=None, go=None):
    """The instruction `name` ("2:20"): groups 2 and 4 in the form with a byte that tells the operands."""
    group, number = [int(part) for part in name.split(":")]
    if group == 0:
        code = [176 + number]
    elif group == 1:
        code = [128 + 16 * operands[0][0] + number]
    else:
        code = [192 + number + (32 if group == 4 else 0), kinds_byte(operands)]
    for operand in operands:
        code += operand_bytes(operand)
    if to is not None:
        code += [to]
    if go is not None:
        code += branch_bytes(*go)
    return code


def put(story, place, row):
    story[place:place + len(row)] = row


def new_story(code, size=SIZE, low=None, at=BEGIN, parts=(), head=None):
    story = [0] * size
    story[0] = 3
    words = {6: at, 8: DICTIONARY, 10: THINGS, 12: VARIABLES, 14: size if low is None else low, 24: ABBREVIATIONS}
    words.update(head or {})
    for place, value in words.items():
        put(story, place, two_bytes(value))
    put(story, at, code)
    for place, row in parts:
        put(story, place, row)
    assert len(story) == size
    return story


def thing_bytes(marks=0, parent=0, sibling=0, child=0, properties=0):
    row = [marks >> 24 & 255, marks >> 16 & 255, marks >> 8 & 255, marks & 255]
    return row + [parent, sibling, child] + two_bytes(properties)


def thing_part(number, **values):
    return (THINGS + 62 + 9 * (number - 1), thing_bytes(**values))


def variable_part(number, value):
    return (VARIABLES + 2 * (number - 16), two_bytes(value))


def text_words(fives):
    """The fives as a text, filled up with 5."""
    fives = list(fives) + [5] * (-len(fives) % 3)
    row = []
    for i in range(0, len(fives), 3):
        word = 1024 * fives[i] + 32 * fives[i + 1] + fives[i + 2]
        row += two_bytes(word + (32768 if i + 3 == len(fives) else 0))
    return row


def letters(text):
    """The fives of small letters and spaces."""
    return [0 if sign == " " else ord(sign) - 91 for sign in text]


def signs(text):
    return [ord(sign) for sign in text]


def load(story, seed=0):
    return [0, seed, len(story)] + story


def run(most):
    return [1, most]


def line(row):
    if isinstance(row, str):
        row = signs(row)
    return [2, len(row)] + row


STAND = [3]


def byte(place):
    return [4, place]


def thing(number):
    return [5, number]


def ask_name(number):
    return [6, number]


def ask_text(place):
    return [7, place]


def ask_prop(number, wanted):
    return [8, number, wanted]


def ask_word(row):
    if isinstance(row, str):
        row = signs(row)
    return [9, len(row)] + row


def ask_code(row):
    if isinstance(row, str):
        row = signs(row)
    return [10, len(row)] + row


def split_answers(told):
    """Each answer as (number, bytes, further numbers)."""
    found = []
    i = 0
    while i < len(told):
        one = told[i + 1:i + 1 + told[i]]
        assert len(one) == told[i]
        i += 1 + told[i]
        many = one[1]
        further = one[3 + many:]
        assert one[2 + many] == len(further)
        found.append((one[0], one[2:2 + many], further))
    return found


def tell(*calls):
    return split_answers(answers([number for call in calls for number in call]))


class Seen:
    """What is to be seen of a story after some calls."""

    def __init__(self, story, calls, seed=0):
        self.calls = [load(story, seed)] + list(calls)
        self.size = len(story)
        told = tell(*self.calls, STAND)
        assert told[0] == (0, [], []), told[0]
        self.told = told[1:-1]
        self.number, said, further = told[-2]
        self.said = "".join(chr(sign) for sign in said)
        self.done = further[0] if further else None
        self.place, self.words, self.depth = told[-1][2]

    def byte(self, place):
        return tell(*self.calls, byte(place))[-1][0]

    def word(self, place):
        return 256 * self.byte(place) + self.byte(place + 1)

    def variable(self, number):
        return self.word(VARIABLES + 2 * (number - 16))

    def row(self, place, many):
        return [self.byte(at) for at in range(place, place + many)]

    def memory(self):
        found = []
        for first in range(0, self.size, 300):
            asked = [byte(place) for place in range(first, min(first + 300, self.size))]
            found += [answer[0] for answer in tell(*self.calls, *asked)[-len(asked):]]
        return found

    def thing(self, number):
        return tell(*self.calls, thing(number))[-1]


def do(code, steps=1, seed=0, **story):
    return Seen(new_story(code, **story), [run(steps)], seed)


def everything(machine):
    """All that an instruction with a fault must leave as it was."""
    return (whole_state(machine.state), machine.kept and whole_state(machine.kept), machine.ended)


def whole_state(state):
    calls = [(call.base, list(call.own), call.back) for call in state.calls]
    return (list(state.memory), state.place, state.seed, list(state.stack), calls)


def fault_of(story, steps=0, seed=0):
    """Runs `steps` instructions, then one that must have a fault: its number, if it changed nothing."""
    machine = run_machine(new_machine(list(story), seed), steps).machine
    before = everything(machine)
    report = run_machine(machine, 5)
    assert report.done == 0 and report.said == [], (report.number, report.done)
    assert everything(report.machine) == before
    assert everything(machine) == before
    return report.number
