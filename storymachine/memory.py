"""Bytes and words at the places of the story."""

from storymachine.faults import PlaceFault


def read_byte(machine, place):
    memory = machine.state.memory
    if place >= len(memory):
        raise PlaceFault()
    return memory[place]


def read_word(machine, place):
    return 256 * read_byte(machine, place) + read_byte(machine, place + 1)


def write_byte(machine, place, value):
    if place >= machine.story.low:
        raise PlaceFault()
    machine.state.memory[place] = value


def write_word(machine, place, value):
    write_byte(machine, place, value // 256)
    write_byte(machine, place + 1, value % 256)


def signed(value):
    return value - 65536 if value >= 32768 else value
