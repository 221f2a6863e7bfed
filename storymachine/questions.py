"""The calls that only ask: they change nothing of the machine."""

from storymachine.dictionary import find_code, read_dictionary, word_code
from storymachine.faults import PlaceFault, TextFault
from storymachine.machine import given_word
from storymachine.properties import MOST_PROPERTY, find_property, length_told
from storymachine.replies import FITS, NOT_THERE, UNFIT, answer, bytes_told, number_alone, typed_refusal
from storymachine.speech import name_bytes
from storymachine.texts import fives_said, place_behind, read_fives
from storymachine.things import ENTRY_BYTES, MOST_THINGS, thing_place


def tell_stand(machine, numbers, row):
    state = machine.state
    return answer(0, [], [state.place, len(state.stack), len(state.calls)])


def place_is_there(machine, place):
    return place < len(machine.state.memory)


def tell_byte(machine, numbers, row):
    if not place_is_there(machine, numbers[0]):
        return number_alone(NOT_THERE)
    return number_alone(machine.state.memory[numbers[0]])


def thing_is_there(machine, number):
    if number < 1 or number > MOST_THINGS:
        return False
    return place_is_there(machine, thing_place(machine, number) + ENTRY_BYTES - 1)


def tell_thing(machine, numbers, row):
    if not thing_is_there(machine, numbers[0]):
        return number_alone(NOT_THERE)
    place = thing_place(machine, numbers[0])
    entry = machine.state.memory[place:place + ENTRY_BYTES]
    marks = 65536 * given_word(entry, 0) + given_word(entry, 2)
    return answer(0, [], entry[4:7] + [marks, given_word(entry, 7)])


def tell_name(machine, numbers, row):
    if not thing_is_there(machine, numbers[0]):
        return number_alone(NOT_THERE)
    try:
        return bytes_told(name_bytes(machine, numbers[0]), [])
    except (PlaceFault, TextFault):
        return number_alone(UNFIT)


def tell_text(machine, numbers, row):
    place = numbers[0]
    if not place_is_there(machine, place):
        return number_alone(NOT_THERE)
    try:
        fives = read_fives(machine, place)
        return bytes_told(fives_said(machine, fives), [place_behind(place, fives)])
    except (PlaceFault, TextFault):
        return number_alone(UNFIT)


# The place of the byte in front of the property's own; 0 too where the way to it leads beyond the end.
def reachable_property(machine, number, wanted):
    try:
        return find_property(machine, number, wanted)
    except PlaceFault:
        return 0


def tell_prop(machine, numbers, row):
    wanted = numbers[1]
    if not thing_is_there(machine, numbers[0]) or wanted < 1 or wanted > MOST_PROPERTY:
        return number_alone(NOT_THERE)
    place = reachable_property(machine, numbers[0], wanted)
    if place == 0:
        return number_alone(NOT_THERE)
    return answer(0, [], [place + 1, length_told(machine.state.memory[place])])


def tell_word(machine, numbers, row):
    refusal = typed_refusal(row)
    if refusal != FITS:
        return number_alone(refusal)
    try:
        return number_alone(find_code(machine, read_dictionary(machine), word_code(row)))
    except (PlaceFault, TextFault):
        return number_alone(UNFIT)


# There may be no machine yet: a word's code follows from its letters alone.
def tell_code(machine, numbers, row):
    refusal = typed_refusal(row)
    if refusal != FITS:
        return number_alone(refusal)
    return answer(0, word_code(row), [])


QUESTIONS = {
    3: tell_stand, 4: tell_byte, 5: tell_thing, 6: tell_name, 7: tell_text, 8: tell_prop, 9: tell_word, 10: tell_code,
}


def find_question(number):
    return QUESTIONS.get(number)
