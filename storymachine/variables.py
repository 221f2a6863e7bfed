"""The stack, and the variables by their numbers."""

from storymachine.faults import OperationFault, StackFault
from storymachine.memory import read_word, write_word

MOST_WORDS = 64


# The words below this height are the callers', which a call can't take.
def floor_of(state):
    return state.calls[-1].base if state.calls else 0


def check_word_there(state):
    if len(state.stack) <= floor_of(state):
        raise StackFault()


def put_word(machine, value):
    stack = machine.state.stack
    if len(stack) >= MOST_WORDS:
        raise StackFault()
    stack.append(value)


def take_word(machine):
    check_word_there(machine.state)
    return machine.state.stack.pop()


def own_variables(state, number):
    own = state.calls[-1].own if state.calls else []
    if number > len(own):
        raise StackFault()
    return own


def global_place(machine, number):
    return machine.story.variables + 2 * (number - 16)


def read_variable(machine, number):
    if number == 0:
        return take_word(machine)
    if number < 16:
        return own_variables(machine.state, number)[number - 1]
    return read_word(machine, global_place(machine, number))


def write_variable(machine, number, value):
    if number == 0:
        put_word(machine, value)
    elif number < 16:
        own = own_variables(machine.state, number)
        own[number - 1] = value
    else:
        write_word(machine, global_place(machine, number), value)


def check_number(number):
    if number > 255:
        raise OperationFault()


# Where an operand is itself a variable's number, variable 0 is the uppermost word in its place.
def read_in_place(machine, number):
    check_number(number)
    if number > 0:
        return read_variable(machine, number)
    check_word_there(machine.state)
    return machine.state.stack[-1]


def write_in_place(machine, number, value):
    check_number(number)
    if number > 0:
        write_variable(machine, number, value)
        return
    check_word_there(machine.state)
    machine.state.stack[-1] = value
