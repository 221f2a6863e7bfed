"""Text squeezed into fives of bits, and what it says."""

from storymachine.faults import TextFault
from storymachine.memory import read_word

MOST_BYTES = 256
NEWLINE = 10
SPACE = 32
UNKNOWN = 63

# The third alphabet, from the five 7 on.
THIRD = "\n0123456789.,!?_#'\"/\\-:()"


def read_fives(machine, place):
    fives = []
    word = 0
    while word < 32768:
        word = read_word(machine, place + len(fives) // 3 * 2)
        fives.extend([word // 1024 % 32, word // 32 % 32, word % 32])
    return fives


def place_behind(place, fives):
    return place + len(fives) // 3 * 2


def letter_bytes(letter):
    if letter == 0:
        return []
    if letter == 13:
        return [NEWLINE]
    return [letter if 32 <= letter <= 126 else UNKNOWN]


def alphabet_byte(alphabet, five):
    if alphabet == 0:
        return ord("a") + five - 6
    if alphabet == 1:
        return ord("A") + five - 6
    return ord(THIRD[five - 7])


def ten_bit_letter(fives, i):
    if i + 2 >= len(fives):
        return []
    return letter_bytes(32 * fives[i + 1] + fives[i + 2])


def abbreviation(machine, fives, i, known):
    if known is None:
        raise TextFault()
    if i + 1 >= len(fives):
        return []
    row = 32 * (fives[i] - 1) + fives[i + 1]
    if row not in known:
        place = 2 * read_word(machine, machine.story.abbreviations + 2 * row)
        known[row] = spell(machine, read_fives(machine, place), None)
    return known[row]


# known: what the abbreviations say that have come so far, so that a long one is spelled once alone;
# None where the fives are an abbreviation's, in which no other may come.
def spell(machine, fives, known):
    told = []
    alphabet = 0
    i = 0
    while i < len(fives):
        five = fives[i]
        shifted = alphabet
        alphabet = 0
        i += 1
        if five == 0:
            told.append(SPACE)
        elif five < 4:
            told.extend(abbreviation(machine, fives, i - 1, known))
            i += 1
        elif five < 6:
            alphabet = five - 3
        elif five == 6 and shifted == 2:
            told.extend(ten_bit_letter(fives, i - 1))
            i += 2
        else:
            told.append(alphabet_byte(shifted, five))
    return told


# An abbreviation alone may be too long, but a later piece's own fault is met before the length of the whole.
def fives_said(machine, fives):
    told = spell(machine, fives, {})
    if len(told) > MOST_BYTES:
        raise TextFault()
    return told


def text_bytes(machine, place):
    return fives_said(machine, read_fives(machine, place))
