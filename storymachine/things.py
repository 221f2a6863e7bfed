"""The tree of things, and their marks."""

from storymachine.faults import ThingFault
from storymachine.memory import read_byte, write_byte

MOST_THINGS = 255
MOST_MARK = 31
ENTRY_BYTES = 9

PARENT = 4
SIBLING = 5
CHILD = 6
PROPERTIES = 7


def check_thing(number):
    if number < 1 or number > MOST_THINGS:
        raise ThingFault()


def thing_place(machine, number):
    check_thing(number)
    return machine.story.things + 62 + ENTRY_BYTES * (number - 1)


def read_link(machine, number, link):
    return read_byte(machine, thing_place(machine, number) + link)


def write_link(machine, number, link, value):
    write_byte(machine, thing_place(machine, number) + link, value)


def parent_of(machine, operands):
    return read_link(machine, operands[0], PARENT)


def sibling_of(machine, operands):
    return read_link(machine, operands[0], SIBLING)


def child_of(machine, operands):
    return read_link(machine, operands[0], CHILD)


def is_child_of(machine, operands):
    return read_link(machine, operands[0], PARENT) == operands[1]


def mark_place(machine, number, mark):
    place = thing_place(machine, number)
    if mark > MOST_MARK:
        raise ThingFault()
    return place + mark // 8


def mark_bit(mark):
    return 128 >> mark % 8


def has_mark(machine, operands):
    place = mark_place(machine, operands[0], operands[1])
    return read_byte(machine, place) & mark_bit(operands[1]) != 0


def set_mark(machine, operands):
    place = mark_place(machine, operands[0], operands[1])
    write_byte(machine, place, read_byte(machine, place) | mark_bit(operands[1]))


def clear_mark(machine, operands):
    place = mark_place(machine, operands[0], operands[1])
    write_byte(machine, place, read_byte(machine, place) & (255 - mark_bit(operands[1])))


# A story may have written a ring of siblings: more than all the things are not gone through.
def child_before(machine, first, number):
    child = first
    for turn in range(MOST_THINGS):
        if child == 0:
            raise ThingFault()
        sibling = read_link(machine, child, SIBLING)
        if sibling == number:
            return child
        child = sibling
    raise ThingFault()


def take_out(machine, number):
    parent = read_link(machine, number, PARENT)
    if parent == 0:
        return
    first = read_link(machine, parent, CHILD)
    sibling = read_link(machine, number, SIBLING)
    if first == number:
        write_link(machine, parent, CHILD, sibling)
    else:
        write_link(machine, child_before(machine, first, number), SIBLING, sibling)
    write_link(machine, number, PARENT, 0)
    write_link(machine, number, SIBLING, 0)


def take_thing_out(machine, operands):
    take_out(machine, operands[0])


def put_thing_in(machine, operands):
    number = operands[0]
    parent = operands[1]
    check_thing(number)
    check_thing(parent)
    take_out(machine, number)
    write_link(machine, number, PARENT, parent)
    write_link(machine, number, SIBLING, read_link(machine, parent, CHILD))
    write_link(machine, parent, CHILD, number)


THINGS = {
    101: sibling_of, 102: child_of, 103: parent_of, 109: take_thing_out, 206: is_child_of,
    210: has_mark, 211: set_mark, 212: clear_mark, 214: put_thing_in,
}


def find_thing_action(code):
    return THINGS.get(code)
