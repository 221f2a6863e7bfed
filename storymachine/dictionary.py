"""The dictionary, and a word's code."""

from storymachine.faults import TextFault
from storymachine.memory import read_byte, read_word
from storymachine.texts import THIRD

CODE_BYTES = 4
CODE_FIVES = 6
PADDING = 5


class Dictionary:
    # first: where its entries begin; length: that of one entry; count: how many there are.
    def __init__(self, signs, first, length, count):
        self.signs = signs
        self.first = first
        self.length = length
        self.count = count


def read_dictionary(machine):
    place = machine.story.dictionary
    size = read_byte(machine, place)
    signs = [read_byte(machine, place + 1 + i) for i in range(size)]
    length = read_byte(machine, place + 1 + size)
    count = read_word(machine, place + 2 + size)
    if length < CODE_BYTES:
        raise TextFault()
    return Dictionary(signs, place + 4 + size, length, count)


def letter_fives(letter):
    if ord("a") <= letter <= ord("z"):
        return [letter - ord("a") + 6]
    for five in range(8, 32):
        if ord(THIRD[five - 7]) == letter:
            return [5, five]
    return [5, 6, letter // 32, letter % 32]


def word_code(word):
    fives = []
    for letter in word:
        fives.extend(letter_fives(letter))
    fives = (fives + [PADDING] * CODE_FIVES)[:CODE_FIVES]
    first = 1024 * fives[0] + 32 * fives[1] + fives[2]
    second = 32768 + 1024 * fives[3] + 32 * fives[4] + fives[5]
    return [first // 256, first % 256, second // 256, second % 256]


# Where the dictionary has the code, 0 if it hasn't.
def find_code(machine, dictionary, code):
    for i in range(dictionary.count):
        place = dictionary.first + i * dictionary.length
        if [read_byte(machine, place + k) for k in range(CODE_BYTES)] == code:
            return place
    return 0
