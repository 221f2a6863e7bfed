"""Operations that steer the machine: calls, returns, what is kept, the seed."""

from storymachine.machine import beginning
from storymachine.memory import signed
from storymachine.routines import branch, enter_routine, jump, return_value
from storymachine.variables import take_word, write_variable


def do_nothing(machine, operands):
    pass


def return_one(machine, operands):
    return_value(machine, 1)


def return_zero(machine, operands):
    return_value(machine, 0)


def return_operand(machine, operands):
    return_value(machine, operands[0])


def return_taken(machine, operands):
    return_value(machine, take_word(machine))


def jump_by(machine, operands):
    jump(machine, signed(operands[0]))


def begin_again(machine, operands):
    machine.state = beginning(machine.story)


def end_machine(machine, operands):
    machine.ended = True
    # It stands at this instruction, which has no byte but its first.
    machine.state.place -= 1


def sum_is_right(machine, operands):
    story = machine.story
    if story.length > len(story.given):
        return False
    return sum(story.given[64:story.length]) % 65536 == story.total


def draw(machine, operands):
    state = machine.state
    most = signed(operands[0])
    if most <= 0:
        state.seed = -most if most < 0 else machine.story.seed
        return 0
    state.seed = (1664525 * state.seed + 1013904223) % 4294967296
    return 1 + state.seed // 65536 % most


FLOW = {
    0: return_one, 1: return_zero, 4: do_nothing, 7: begin_again, 8: return_taken, 10: end_machine,
    12: do_nothing, 13: sum_is_right, 111: return_operand, 112: jump_by, 407: draw, 410: do_nothing,
    411: do_nothing, 420: do_nothing, 421: do_nothing,
}


def find_flow_action(code):
    return FLOW.get(code)


def call_routine(machine, found, operands):
    if operands[0] == 0:
        write_variable(machine, found.target, 0)
    else:
        enter_routine(machine, 2 * operands[0], operands[1:])


def keep_state(machine, found, operands):
    branch(machine, found, True)
    machine.kept = machine.state.twin()


def bring_back_state(machine, found, operands):
    if machine.kept is None:
        branch(machine, found, False)
    else:
        machine.state = machine.kept.twin()


# These see to their variable and their branch themselves.
WHOLE = {5: keep_state, 6: bring_back_state, 400: call_routine}


def find_whole_action(code):
    return WHOLE.get(code)
