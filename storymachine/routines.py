"""Calls of routines, returns from them, and branches."""

from storymachine.faults import OperationFault, PlaceFault, StackFault
from storymachine.machine import Call
from storymachine.memory import read_byte, read_word
from storymachine.variables import write_variable

MOST_CALLS = 16
MOST_OWN = 15


def enter_routine(machine, place, given):
    state = machine.state
    count = read_byte(machine, place)
    if count > MOST_OWN:
        raise OperationFault()
    own = [read_word(machine, place + 1 + 2 * i) for i in range(count)]
    if len(state.calls) >= MOST_CALLS:
        raise StackFault()
    for i in range(min(count, len(given))):
        own[i] = given[i]
    state.calls.append(Call(len(state.stack), own, state.place))
    state.place = place + 1 + 2 * count


def return_value(machine, value):
    state = machine.state
    if not state.calls:
        raise StackFault()
    left = state.calls.pop()
    state.stack = state.stack[:left.base]
    state.place = left.back
    # The story may have written over its own calling instruction: its last byte is read as it is now.
    write_variable(machine, read_byte(machine, left.back - 1), value)


def jump(machine, distance):
    place = machine.state.place + distance - 2
    if place < 0:
        raise PlaceFault()
    machine.state.place = place


def branch(machine, found, holds):
    if holds != found.way:
        return
    if found.distance in (0, 1):
        return_value(machine, found.distance)
    else:
        jump(machine, found.distance)
