"""Operations on variables, the stack, and words and bytes of memory."""

from storymachine.memory import read_byte, read_word, signed, write_byte, write_word
from storymachine.variables import check_number, put_word, read_in_place, take_word, write_in_place


def change_by(machine, number, step):
    value = (read_in_place(machine, number) + step) % 65536
    write_in_place(machine, number, value)
    return signed(value)


def less_one(machine, operands):
    change_by(machine, operands[0], -1)


def one_more(machine, operands):
    change_by(machine, operands[0], 1)


def less_one_is_less(machine, operands):
    return change_by(machine, operands[0], -1) < signed(operands[1])


def one_more_is_more(machine, operands):
    return change_by(machine, operands[0], 1) > signed(operands[1])


def variable_value(machine, operands):
    return read_in_place(machine, operands[0])


def set_variable(machine, operands):
    write_in_place(machine, operands[0], operands[1])


def word_at(machine, operands):
    return read_word(machine, operands[0] + 2 * operands[1])


def byte_at(machine, operands):
    return read_byte(machine, operands[0] + operands[1])


def set_word(machine, operands):
    write_word(machine, operands[0] + 2 * operands[1], operands[2])


def set_byte(machine, operands):
    write_byte(machine, operands[0] + operands[1], operands[2] % 256)


def put_on_stack(machine, operands):
    put_word(machine, operands[0])


# The number is looked at before the stack is: 16 comes before 18.
def take_into(machine, operands):
    check_number(operands[0])
    write_in_place(machine, operands[0], take_word(machine))


def take_off_stack(machine, operands):
    take_word(machine)


CELLS = {
    9: take_off_stack, 105: one_more, 106: less_one, 114: variable_value, 204: less_one_is_less,
    205: one_more_is_more, 213: set_variable, 215: word_at, 216: byte_at, 401: set_word, 402: set_byte,
    408: put_on_stack, 409: take_into,
}


def find_cell_action(code):
    return CELLS.get(code)
