"""The machine's steps: one instruction, one line, and runs of instructions."""

from storymachine.cells import find_cell_action
from storymachine.faults import OperationFault, PlaceFault, QuotientFault, StackFault, TextFault, ThingFault
from storymachine.flow import find_flow_action, find_whole_action
from storymachine.instructions import VARIABLE, read_instruction, waits_for_line
from storymachine.lines import take_line
from storymachine.properties import find_property_action
from storymachine.routines import branch
from storymachine.speech import find_speech_action
from storymachine.sums import find_sum
from storymachine.things import find_thing_action
from storymachine.variables import read_variable, write_variable

NO_FAULT = 0

ENDED = 0
ALL_DONE = 1
WAITING = 2


class Outcome:
    # machine: the one that goes on from here; where there's a fault, the one from before it.
    def __init__(self, fault, machine):
        self.fault = fault
        self.machine = machine


class Report:
    def __init__(self, number, said, done, machine):
        self.number = number
        self.said = said
        self.done = done
        self.machine = machine


def operand_values(machine, found):
    values = []
    for kind, given in zip(found.kinds, found.operands):
        values.append(read_variable(machine, given) if kind == VARIABLE else given)
    return values


def table_result(machine, code, operands):
    sum_action = find_sum(code)
    if sum_action is not None:
        return sum_action(operands)
    finders = (find_cell_action, find_thing_action, find_property_action, find_speech_action, find_flow_action)
    for find_action in finders:
        action = find_action(code)
        if action is not None:
            return action(machine, operands)
    # 4:4 alone is left, and a run stops in front of it.
    raise OperationFault()


def do_instruction(machine):
    found = read_instruction(machine)
    operands = operand_values(machine, found)
    machine.state.place = found.behind
    whole_action = find_whole_action(found.code)
    if whole_action is not None:
        whole_action(machine, found, operands)
        return
    result = table_result(machine, found.code, operands)
    if found.writes:
        write_variable(machine, found.target, result)
    if found.branches:
        # Where an operation both writes and branches, it asks whether what it wrote isn't 0.
        branch(machine, found, result != 0)


def do_line(machine, line):
    found = read_instruction(machine)
    operands = operand_values(machine, found)
    machine.state.place = found.behind
    take_line(machine, operands, line)


# All is done on a copy, so that of a step with a fault nothing is done.
def attempt(machine, step):
    copied = machine.trial()
    try:
        step(copied)
    except (OperationFault, PlaceFault, StackFault, ThingFault, QuotientFault, TextFault) as fault:
        return Outcome(fault.number, machine)
    return Outcome(NO_FAULT, copied)


def run_machine(machine, most):
    said = []
    done = 0
    while True:
        if machine.ended:
            return Report(ENDED, said, done, machine)
        if done >= most:
            return Report(ALL_DONE, said, done, machine)
        if waits_for_line(machine):
            return Report(WAITING, said, done, machine)
        outcome = attempt(machine, do_instruction)
        if outcome.fault != NO_FAULT:
            return Report(outcome.fault, said, done, machine)
        machine = outcome.machine
        said.extend(machine.said)
        done += 1


def try_line(machine, line):
    return attempt(machine, lambda copied: do_line(copied, line))
