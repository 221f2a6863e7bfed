"""An instruction's bytes: its operation, operands, variable to write and branch."""

from storymachine.faults import OperationFault
from storymachine.memory import read_byte, read_word

WORD = 0
BYTE = 1
VARIABLE = 2
NONE = 3

LINE_BYTE = 228
LINE_OPERANDS = 2

# The operation a:b is 100 a + b; fewest and most operands, whether it writes a variable, whether it branches.
SHAPES = {
    0: (0, 0, False, False), 1: (0, 0, False, False), 2: (0, 0, False, False), 3: (0, 0, False, False),
    4: (0, 0, False, False), 5: (0, 0, False, True), 6: (0, 0, False, True), 7: (0, 0, False, False),
    8: (0, 0, False, False), 9: (0, 0, False, False), 10: (0, 0, False, False), 11: (0, 0, False, False),
    12: (0, 0, False, False), 13: (0, 0, False, True),
    100: (1, 1, False, True), 101: (1, 1, True, True), 102: (1, 1, True, True), 103: (1, 1, True, False),
    104: (1, 1, True, False), 105: (1, 1, False, False), 106: (1, 1, False, False), 107: (1, 1, False, False),
    109: (1, 1, False, False), 110: (1, 1, False, False), 111: (1, 1, False, False), 112: (1, 1, False, False),
    113: (1, 1, False, False), 114: (1, 1, True, False), 115: (1, 1, True, False),
    201: (2, 4, False, True), 202: (2, 2, False, True), 203: (2, 2, False, True), 204: (2, 2, False, True),
    205: (2, 2, False, True), 206: (2, 2, False, True), 207: (2, 2, False, True), 208: (2, 2, True, False),
    209: (2, 2, True, False), 210: (2, 2, False, True), 211: (2, 2, False, False), 212: (2, 2, False, False),
    213: (2, 2, False, False), 214: (2, 2, False, False), 215: (2, 2, True, False), 216: (2, 2, True, False),
    217: (2, 2, True, False), 218: (2, 2, True, False), 219: (2, 2, True, False), 220: (2, 2, True, False),
    221: (2, 2, True, False), 222: (2, 2, True, False), 223: (2, 2, True, False), 224: (2, 2, True, False),
    400: (1, 4, True, False), 401: (3, 3, False, False), 402: (3, 3, False, False), 403: (3, 3, False, False),
    404: (2, 2, False, False), 405: (1, 1, False, False), 406: (1, 1, False, False), 407: (1, 1, True, False),
    408: (1, 1, False, False), 409: (1, 1, False, False), 410: (0, 4, False, False), 411: (0, 4, False, False),
    420: (0, 4, False, False), 421: (0, 4, False, False),
}


class Instruction:
    # way: the branch is gone if what it asks turns out so; behind: the place behind all bytes read so far.
    def __init__(self, code, kinds, behind):
        self.code = code
        self.kinds = kinds
        self.behind = behind
        self.operands = []
        self.writes = False
        self.target = 0
        self.branches = False
        self.way = False
        self.distance = 0


def told_kinds(byte):
    kinds = []
    for divisor in (64, 16, 4, 1):
        kind = byte // divisor % 4
        if kind == NONE:
            return kinds
        kinds.append(kind)
    return kinds


def read_operation(machine):
    place = machine.state.place
    first = read_byte(machine, place)
    if first < 128:
        kinds = [VARIABLE if first & bit else BYTE for bit in (64, 32)]
        return Instruction(200 + first % 32, kinds, place + 1)
    if first < 192:
        kind = first // 16 % 4
        if kind == NONE:
            return Instruction(first % 16, [], place + 1)
        return Instruction(100 + first % 16, [kind], place + 1)
    kinds = told_kinds(read_byte(machine, place + 1))
    group = 400 if first & 32 else 200
    return Instruction(group + first % 32, kinds, place + 2)


def set_shape(found):
    shape = SHAPES.get(found.code)
    if shape is None or len(found.kinds) < shape[0] or len(found.kinds) > shape[1]:
        raise OperationFault()
    found.writes = shape[2]
    found.branches = shape[3]


def next_byte(machine, found):
    byte = read_byte(machine, found.behind)
    found.behind += 1
    return byte


def read_operand(machine, found, kind):
    if kind == WORD:
        value = read_word(machine, found.behind)
        found.behind += 2
        return value
    return next_byte(machine, found)


def read_branch(machine, found):
    byte = next_byte(machine, found)
    found.way = byte >= 128
    found.distance = byte % 64
    if byte & 64 == 0:
        distance = 256 * found.distance + next_byte(machine, found)
        found.distance = distance - 16384 if distance >= 8192 else distance


# The bytes alone are read here: all of them are met before the first variable.
def read_instruction(machine):
    found = read_operation(machine)
    set_shape(found)
    for kind in found.kinds:
        found.operands.append(read_operand(machine, found, kind))
    if found.writes:
        found.target = next_byte(machine, found)
    if found.branches:
        read_branch(machine, found)
    return found


def waits_for_line(machine):
    memory = machine.state.memory
    place = machine.state.place
    if place + 1 >= len(memory) or memory[place] != LINE_BYTE:
        return False
    return len(told_kinds(memory[place + 1])) == LINE_OPERANDS
