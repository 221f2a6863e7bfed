"""A line that a player types: put into memory, taken apart, its words looked up."""

from storymachine.dictionary import find_code, read_dictionary, word_code
from storymachine.memory import read_byte, write_byte, write_word
from storymachine.texts import SPACE


class Word:
    # begin: where its first letter stands, counted from the byte that tells the line's room.
    def __init__(self, begin, letters):
        self.begin = begin
        self.letters = letters


def small_letter(letter):
    return letter + 32 if ord("A") <= letter <= ord("Z") else letter


def put_letters(machine, place, line):
    letters = [small_letter(letter) for letter in line[:read_byte(machine, place)]]
    for i, letter in enumerate(letters):
        write_byte(machine, place + 1 + i, letter)
    write_byte(machine, place + 1 + len(letters), 0)
    return letters


def take_apart(letters, signs):
    words = []
    begin = 0
    for i, letter in enumerate(letters):
        if letter == SPACE or letter in signs:
            if i > begin:
                words.append(Word(begin + 1, letters[begin:i]))
            if letter != SPACE:
                words.append(Word(i + 1, [letter]))
            begin = i + 1
    if len(letters) > begin:
        words.append(Word(begin + 1, letters[begin:]))
    return words


def put_word_found(machine, place, word, dictionary):
    entry = find_code(machine, dictionary, word_code(word.letters))
    write_word(machine, place, entry % 65536)
    write_byte(machine, place + 2, len(word.letters))
    write_byte(machine, place + 3, word.begin)


def put_words(machine, place, words, dictionary):
    count = min(read_byte(machine, place), len(words))
    write_byte(machine, place + 1, count)
    for i in range(count):
        put_word_found(machine, place + 2 + 4 * i, words[i], dictionary)


# Line, words and dictionary may overlap in memory: each is read only when its turn comes.
def take_line(machine, operands, line):
    letters = put_letters(machine, operands[0], line)
    dictionary = read_dictionary(machine)
    words = take_apart(letters, dictionary.signs)
    put_words(machine, operands[1], words, dictionary)
