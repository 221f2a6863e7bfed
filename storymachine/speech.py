"""Operations that say something."""

from storymachine.memory import read_byte, signed
from storymachine.properties import name_place
from storymachine.routines import return_value
from storymachine.texts import NEWLINE, fives_said, letter_bytes, place_behind, read_fives, text_bytes


def say_newline(machine, operands):
    machine.said.append(NEWLINE)


def say_following(machine, operands):
    place = machine.state.place
    fives = read_fives(machine, place)
    machine.said.extend(fives_said(machine, fives))
    machine.state.place = place_behind(place, fives)


def say_following_and_return(machine, operands):
    say_following(machine, operands)
    say_newline(machine, operands)
    return_value(machine, 1)


def say_text(machine, operands):
    machine.said.extend(text_bytes(machine, operands[0]))


def say_text_at_twice(machine, operands):
    machine.said.extend(text_bytes(machine, 2 * operands[0]))


# A name of no words has no text at all, so what stands behind it is not read as one.
def name_bytes(machine, number):
    place = name_place(machine, number)
    if read_byte(machine, place) == 0:
        return []
    return text_bytes(machine, place + 1)


def say_name(machine, operands):
    machine.said.extend(name_bytes(machine, operands[0]))


def say_letter(machine, operands):
    machine.said.extend(letter_bytes(operands[0]))


def say_number(machine, operands):
    machine.said.extend([ord(digit) for digit in str(signed(operands[0]))])


SPEECH = {
    2: say_following, 3: say_following_and_return, 11: say_newline, 107: say_text, 110: say_name,
    113: say_text_at_twice, 405: say_letter, 406: say_number,
}


def find_speech_action(code):
    return SPEECH.get(code)
