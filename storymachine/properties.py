"""The properties of things."""

from storymachine.faults import ThingFault
from storymachine.memory import read_byte, read_word, write_byte, write_word
from storymachine.things import PROPERTIES, thing_place

MOST_PROPERTY = 31


def name_place(machine, number):
    return read_word(machine, thing_place(machine, number) + PROPERTIES)


def first_property(machine, number):
    place = name_place(machine, number)
    return place + 1 + 2 * read_byte(machine, place)


def length_told(byte):
    return byte // 32 + 1


# Gives the place of the byte in front of the property's own, 0 if the thing has none such.
def find_property(machine, number, wanted):
    place = first_property(machine, number)
    byte = read_byte(machine, place)
    while byte != 0:
        if byte % 32 == wanted:
            return place
        place += 1 + length_told(byte)
        byte = read_byte(machine, place)
    return 0


# Nothing is read before both numbers are known to be right: a wrong one is told before a place beyond the end.
def check_property(wanted, fewest):
    if wanted < fewest or wanted > MOST_PROPERTY:
        raise ThingFault()


def present_property(machine, number, wanted):
    place = find_property(machine, number, wanted)
    if place == 0:
        raise ThingFault()
    return place


def property_value(machine, operands):
    check_property(operands[1], 1)
    place = find_property(machine, operands[0], operands[1])
    if place == 0:
        return read_word(machine, machine.story.things + 2 * (operands[1] - 1))
    length = length_told(read_byte(machine, place))
    if length == 1:
        return read_byte(machine, place + 1)
    if length == 2:
        return read_word(machine, place + 1)
    raise ThingFault()


def property_place(machine, operands):
    check_property(operands[1], 1)
    place = find_property(machine, operands[0], operands[1])
    return 0 if place == 0 else place + 1


def property_after(machine, operands):
    check_property(operands[1], 0)
    if operands[1] == 0:
        return read_byte(machine, first_property(machine, operands[0])) % 32
    place = present_property(machine, operands[0], operands[1])
    behind = place + 1 + length_told(read_byte(machine, place))
    return read_byte(machine, behind) % 32


def set_property(machine, operands):
    check_property(operands[1], 1)
    place = present_property(machine, operands[0], operands[1])
    length = length_told(read_byte(machine, place))
    if length == 1:
        write_byte(machine, place + 1, operands[2] % 256)
    elif length == 2:
        write_word(machine, place + 1, operands[2])
    else:
        raise ThingFault()


def property_length(machine, operands):
    if operands[0] == 0:
        return 0
    return length_told(read_byte(machine, operands[0] - 1))


PROPERTY_ACTIONS = {
    104: property_length, 217: property_value, 218: property_place, 219: property_after, 403: set_property,
}


def find_property_action(code):
    return PROPERTY_ACTIONS.get(code)
