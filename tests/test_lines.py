"""Lines that a player types."""

import unittest

from tests.helper import (
    BEGIN, DICTIONARY, SIZE, STAND, B, Seen, V, W, line, load, new_story, op, put, run, signs, tell, two_bytes,
    variable_part,
)

T = 800
WORDS = 900
OK = (0, [], [])
READ = op("4:4", W(T), W(WORDS))

LOOK = [0x46, 0x94, 0xC0, 0xA5]  # 17 20 20, 16 5 5
LAMP = [0x44, 0xD2, 0xD4, 0xA5]  # 17 6 18, 21 5 5
COMMA = [0x16, 0x65, 0x94, 0xA5]  # 5 19 5, 5 5 5


def dictionary(entries, parting=".,", length=7, count=None):
    row = [len(parting)] + signs(parting) + [length]
    row += two_bytes(len(entries) if count is None else count)
    for entry in entries:
        row += entry + [0] * (length - 4)
    return (DICTIONARY, row)


BOOK = dictionary([LAMP, LOOK, COMMA])


def entry_place(number, parting=".,", length=7):
    return DICTIONARY + 4 + len(parting) + number * length


def line_story(book=BOOK, room=50, words=10, code=READ, parts=(), **story):
    return new_story(code, parts=(book, (T, [room]), (WORDS, [words])) + tuple(parts), **story)


class LineCase(unittest.TestCase):
    def take(self, typed, story=None, **values):
        story = story or line_story(**values)
        seen = Seen(story, [run(5), line(typed)])
        self.assertEqual(seen.told[0], (2, [], [0]))
        self.assertEqual(seen.number, 0)
        self.assertEqual(seen.place, BEGIN + len(READ))
        return seen

    def words(self, typed, **values):
        """(entry, letters, begin) of each word."""
        seen = self.take(typed, **values)
        found = []
        for i in range(seen.byte(WORDS + 1)):
            row = seen.row(WORDS + 2 + 4 * i, 4)
            found.append((256 * row[0] + row[1], row[2], row[3]))
        return found

    def fault(self, typed, **values):
        """The fault of a line, if it changes nothing and the machine waits still."""
        story = line_story(**values)
        return self.fault_in(story, typed)

    def fault_in(self, story, typed, steps=0):
        before = Seen(story, [run(steps)])
        after = Seen(story, [run(steps), line(typed)])
        self.assertEqual((after.place, after.words, after.depth), (before.place, before.words, before.depth))
        self.assertEqual(after.memory(), before.memory())
        self.assertEqual(tell(load(story), run(steps), line(typed), run(1))[-1], (2, [], [0]))
        return after.number


class Lines(LineCase):
    def test_the_letters(self):
        seen = self.take("Take LAMP!", parts=((T + 1, [9] * 20),))
        self.assertEqual(seen.row(T, 13), [50] + signs("take lamp!") + [0, 9])

    def test_all_typed_letters(self):
        typed = [letter for letter in range(32, 127)]
        seen = self.take(typed, room=99, words=0)
        small = [letter + 32 if 65 <= letter <= 90 else letter for letter in typed]
        self.assertEqual(seen.row(T + 1, 96), small + [0])

    def test_no_more_letters_than_there_is_room_for(self):
        seen = self.take("look lamp", room=6, parts=((T + 1, [9] * 20),))
        self.assertEqual(seen.row(T, 9), [6] + signs("look l") + [0, 9])
        self.assertEqual(seen.row(WORDS, 11), [10, 2] + two_bytes(entry_place(1)) + [4, 1, 0, 0, 1, 6, 0])
        seen = self.take("look", room=4, parts=((T + 1, [9] * 20),))
        self.assertEqual(seen.row(T + 1, 6), signs("look") + [0, 9])

    def test_room_for_no_letters(self):
        seen = self.take("look", room=0, parts=((T + 1, [9] * 3), (WORDS + 1, [5])))
        self.assertEqual(seen.row(T, 4), [0, 0, 9, 9])
        self.assertEqual(seen.byte(WORDS + 1), 0)

    def test_an_empty_line(self):
        seen = self.take("", parts=((T + 1, [9]), (WORDS + 1, [5, 6, 7])))
        self.assertEqual(seen.row(T, 2), [50, 0])
        self.assertEqual(seen.row(WORDS, 4), [10, 0, 6, 7])

    def test_255_letters_and_more(self):
        story = line_story(room=255, code=op("4:4", W(500), W(WORDS)), parts=((500, [255]),), head={8: 300})
        put(story, 300, [0, 4, 0, 0])
        typed = "x" * 254 + "y"
        told = tell(load(story), line(typed), [4, 500 + 255], [4, 500 + 256], [4, WORDS + 1], [4, WORDS + 4], [4, WORDS + 5])
        self.assertEqual([answer[0] for answer in told[1:]], [0, ord("y"), 0, 1, 255, 1])
        self.assertEqual(tell(load(story), line(typed + "z"), STAND)[1:], [(-2, [], []), (0, [], [BEGIN, 0, 0])])
        # A word of one letter at the very end begins at 255.
        told = tell(load(story), line(" " * 254 + "y"), [4, WORDS + 4], [4, WORDS + 5])
        self.assertEqual([answer[0] for answer in told[1:]], [0, 1, 255])

    def test_entries_found_and_not_found(self):
        self.assertEqual(self.words("look lamp"), [(entry_place(1), 4, 1), (entry_place(0), 4, 6)])
        self.assertEqual(self.words("LOOK"), [(entry_place(1), 4, 1)])
        self.assertEqual(self.words("xyzzy look"), [(0, 5, 1), (entry_place(1), 4, 7)])
        self.assertEqual(self.words("loo lookk"), [(0, 3, 1), (0, 5, 5)])

    def test_spaces(self):
        self.assertEqual(self.words("   "), [])
        self.assertEqual(self.words("  look   lamp "), [(entry_place(1), 4, 3), (entry_place(0), 4, 10)])

    def test_signs(self):
        comma = entry_place(2)
        self.assertEqual(self.words("look,lamp"), [(entry_place(1), 4, 1), (comma, 1, 5), (entry_place(0), 4, 6)])
        self.assertEqual(self.words(",,.look"), [(comma, 1, 1), (comma, 1, 2), (0, 1, 3), (entry_place(1), 4, 4)])
        self.assertEqual(self.words("look , "), [(entry_place(1), 4, 1), (comma, 1, 6)])
        self.assertEqual(self.words("look!lamp"), [(0, 9, 1)])

    def test_no_signs(self):
        book = dictionary([COMMA, LOOK], parting="")
        self.assertEqual(self.words(", look,", book=book), [(DICTIONARY + 4, 1, 1), (0, 5, 3)])

    def test_a_space_among_the_signs(self):
        book = dictionary([LOOK], parting=" ,")
        self.assertEqual(self.words("look  look,", book=book), [
            (entry_place(0), 4, 1), (entry_place(0), 4, 7), (0, 1, 11),
        ])

    def test_a_letter_among_the_signs(self):
        book = dictionary([LOOK], parting="xA")
        self.assertEqual(self.words("alookXlook", book=book), [(0, 5, 1), (0, 1, 6), (entry_place(0, "xA"), 4, 7)])

    def test_the_room_in_w(self):
        for room, many in ((0, 0), (1, 1), (2, 2), (3, 3), (4, 3), (255, 3)):
            seen = self.take("look a lamp", words=room, parts=((WORDS + 1, [9] * 14),))
            self.assertEqual(seen.row(WORDS, 2), [room, many])
            row = two_bytes(entry_place(1)) + [4, 1, 0, 0, 1, 6] + two_bytes(entry_place(0)) + [4, 8]
            self.assertEqual(seen.row(WORDS + 2, 13), row[:4 * many] + [9] * (13 - 4 * many))

    def test_words_beyond_the_room_are_not_looked_up(self):
        # An entry too many: whatever isn't found before it is beyond the end.
        book = dictionary([LOOK], count=1000)
        self.assertEqual(self.words("look lamp", book=book, words=1), [(entry_place(0), 4, 1)])
        self.assertEqual(self.fault("look lamp", book=book, words=2), 17)
        self.assertEqual(self.words("", book=book), [])

    def test_the_first_entry_alike_counts(self):
        self.assertEqual(self.words("look", book=dictionary([LAMP, LOOK, LOOK])), [(entry_place(1), 4, 1)])

    def test_lengths_of_entries(self):
        book = dictionary([LAMP, LOOK], length=4)
        self.assertEqual(self.words("look", book=book), [(entry_place(1, length=4), 4, 1)])
        book = dictionary([LAMP, LOOK], length=100)
        self.assertEqual(self.words("look", book=book), [(entry_place(1, length=100), 4, 1)])

    def test_an_empty_dictionary(self):
        self.assertEqual(self.words("look", book=dictionary([])), [(0, 4, 1)])

    def test_codes(self):
        # The fives are told by hand; six at most, 5 for those that are missing.
        for typed, fives in (
            ("a", [6, 5, 5, 5, 5, 5]), ("z", [31, 5, 5, 5, 5, 5]), ("abcdef", [6, 7, 8, 9, 10, 11]),
            ("abcdefgh", [6, 7, 8, 9, 10, 11]), ("0", [5, 8, 5, 5, 5, 5]), ("9a", [5, 17, 6, 5, 5, 5]),
            ("(", [5, 30, 5, 5, 5, 5]), (")", [5, 31, 5, 5, 5, 5]), ("-x-", [5, 28, 29, 5, 28, 5]),
            ("$", [5, 6, 1, 4, 5, 5]), ("~", [5, 6, 3, 30, 5, 5]), ("@b", [5, 6, 2, 0, 7, 5]), ("ab$", [6, 7, 5, 6, 1, 4]),
            ("abc$", [6, 7, 8, 5, 6, 1]), ("abcde1", [6, 7, 8, 9, 10, 5]), ("it's", [14, 25, 5, 24, 24, 5]),
            ("\\/", [5, 27, 5, 26, 5, 5]), ("\"_", [5, 25, 5, 22, 5, 5]), (";", [5, 6, 1, 27, 5, 5]), ("Z", [31, 5, 5, 5, 5, 5]),
            ("?!#", [5, 21, 5, 20, 5, 23]), (":", [5, 29, 5, 5, 5, 5]),
        ):
            first = 1024 * fives[0] + 32 * fives[1] + fives[2]
            second = 32768 + 1024 * fives[3] + 32 * fives[4] + fives[5]
            book = dictionary([LAMP, two_bytes(first) + two_bytes(second)], parting="")
            self.assertEqual(self.words(typed, book=book), [(DICTIONARY + 4 + 7, len(typed), 1)], typed)

    def test_all_four_bytes_are_compared(self):
        for i in range(4):
            entry = list(LOOK)
            entry[i] ^= 1
            self.assertEqual(self.words("look", book=dictionary([entry])), [(0, 4, 1)])

    def test_the_operands(self):
        code = op("4:8", W(WORDS)) + op("4:8", W(T)) + op("4:4", V(0), V(0))
        story = line_story(code=code)
        seen = Seen(story, [run(9), line("look")])
        self.assertEqual((seen.number, seen.place, seen.words), (0, BEGIN + len(code), 0))
        self.assertEqual((seen.byte(T + 1), seen.byte(WORDS + 1)), (ord("l"), 1))
        story = line_story(code=op("4:4", V(16), V(17)), parts=(variable_part(16, T), variable_part(17, WORDS)))
        self.assertEqual(Seen(story, [line("look")]).byte(WORDS + 1), 1)

    def test_waits_before_any_run(self):
        self.assertEqual(tell(load(line_story()), line("look"))[1], OK)

    def test_runs_on_behind_the_line(self):
        story = line_story(code=READ + op("4:6", B(7)) + READ)
        told = tell(load(story), run(9), line("look"), run(9), line("lamp"), run(0), STAND)
        self.assertEqual(told[1:4], [(2, [], [0]), OK, (2, [55], [1])])
        self.assertEqual(told[4:6], [OK, (1, [], [0])])
        self.assertEqual(told[6][2][0], BEGIN + 2 * len(READ) + 3)


class Refusals(LineCase):
    def test_does_not_wait(self):
        for code in (op("0:11"), op("0:10"), op("4:4", B(1)), op("4:4", B(1), B(1), B(1)), [0]):
            told = tell(load(new_story(code)), line("look"), line([0] * 300), STAND)
            self.assertEqual(told[1:], [(-5, [], []), (-5, [], []), (0, [], [BEGIN, 0, 0])])
        story = new_story([228], at=SIZE - 1)
        self.assertEqual(tell(load(story), line(""))[1][0], -5)

    def test_too_long_goes_before_not_typed(self):
        told = tell(load(line_story()), line([0] * 256), line([0] * 255), line("x" * 256), STAND)
        self.assertEqual([answer[0] for answer in told[1:5]], [-2, -1, -2, 0])
        self.assertEqual(told[4][2], [BEGIN, 0, 0])

    def test_not_all_typed(self):
        for letter, number in ((31, -1), (127, -1), (0, -1), (10, -1), (255, -1), (32, 0), (126, 0)):
            self.assertEqual(tell(load(line_story()), line(signs("look ") + [letter]))[1], (number, [], []))

    def test_a_refusal_goes_before_a_fault(self):
        story = line_story(code=op("4:4", V(0), V(0)))
        told = tell(load(story), line([7]), line("x" * 256), line("x"))
        self.assertEqual([answer[0] for answer in told[1:]], [-1, -2, 18])


class LineFaults(LineCase):
    def test_the_operands_bytes(self):
        code = op("4:4", W(1), V(0))
        for length in range(2, len(code)):
            story = new_story(code[:length], at=SIZE - length)
            self.assertEqual(self.fault_in(story, "x"), 17)

    def test_the_operands_variables(self):
        self.assertEqual(self.fault("x", code=op("4:4", V(0), B(1))), 18)
        self.assertEqual(self.fault("x", code=op("4:4", V(1), V(255)), head={12: SIZE - 2}), 18)
        self.assertEqual(self.fault("x", code=op("4:4", V(255), V(1)), head={12: SIZE - 2}), 17)
        # Of two words only one is there: it stays.
        story = line_story(code=op("4:8", W(T)) + op("4:4", V(0), V(0)))
        self.assertEqual(self.fault_in(story, "x", 1), 18)

    def test_the_letters_places(self):
        self.assertEqual(self.fault("x", code=op("4:4", W(SIZE), W(WORDS))), 17)
        self.assertEqual(self.fault("x", code=op("4:4", W(65535), W(WORDS))), 17)
        # Letters at low - 2 and the 0 at low - 1 fit; one more doesn't.
        low = T + 6
        story = line_story(code=op("4:4", W(T), B(66)), low=low, parts=((66, [0]),), head={12: 300})
        self.assertEqual(self.fault_in(story, "abcde"), 17)
        self.assertEqual(tell(load(story), line("abcd"))[1], OK)
        self.assertEqual(self.fault_in(story, "abcdefghij"), 17)
        # A line that has a fault may be followed by one that hasn't.
        self.assertEqual([answer[0] for answer in tell(load(story), line("abcde"), line("abcd"))], [0, 17, 0])

    def test_the_dictionarys_head(self):
        for row, number in (([0], 17), ([0, 7], 17), ([0, 7, 0], 17), ([0, 7, 0, 0], 0), ([2, 44], 17), ([1, 44, 7, 0], 17)):
            for typed in ("look", ""):
                story = line_story(book=(SIZE - len(row), row), head={8: SIZE - len(row)})
                self.assertEqual(tell(load(story), line(typed))[1][0], number, row)

    def test_short_entries(self):
        for length in (0, 1, 2, 3):
            for typed in ("look", ""):
                self.assertEqual(self.fault(typed, book=(DICTIONARY, [0, length, 0, 0])), 21)
            # Told when the number of entries has been read.
            story = line_story(book=(SIZE - 3, [0, length, 0]), head={8: SIZE - 3})
            self.assertEqual(self.fault_in(story, "look"), 17)
        self.assertEqual(self.words("look", book=(DICTIONARY, [0, 4, 0, 0])), [(0, 4, 1)])

    def test_the_letters_go_before_the_head_and_the_head_before_w(self):
        bad = (DICTIONARY, [0, 3, 0, 0])
        self.assertEqual(self.fault("look", book=bad, code=op("4:4", W(SIZE), W(WORDS))), 17)
        self.assertEqual(self.fault("look", book=bad, low=T + 3), 17)
        self.assertEqual(self.fault("look", book=bad, code=op("4:4", W(T), W(SIZE))), 21)
        self.assertEqual(self.fault("look", book=bad, low=WORDS), 21)

    def test_entries_beyond_the_end(self):
        # The last entry's first 4 bytes must be in the story, not its others.
        row = [0, 7, 0, 2] + LAMP + [0, 0, 0] + LOOK
        place = SIZE - len(row)
        story = line_story(book=(place, row), head={8: place})
        self.assertEqual(Seen(story, [line("look")]).word(WORDS + 2), place + 11)
        self.assertEqual(Seen(story, [line("xyzzy")]).number, 0)
        story = line_story(book=(place + 1, row[:-1]), head={8: place + 1})
        self.assertEqual(self.fault_in(story, "xyzzy"), 17)
        self.assertEqual(Seen(story, [line("lamp")]).number, 0)

    def test_the_words_places(self):
        self.assertEqual(self.fault("look", code=op("4:4", W(T), W(SIZE))), 17)
        self.assertEqual(self.fault("", code=op("4:4", W(T), W(SIZE - 1))), 17)
        for low, typed, number in (
            (WORDS + 2, "", 0), (WORDS + 1, "", 17), (WORDS + 6, "look", 0), (WORDS + 5, "look", 17), (WORDS + 2, "look", 17),
            (WORDS + 9, "look lamp", 17), (WORDS + 10, "look lamp", 0),
        ):
            story = line_story(low=low)
            self.assertEqual(tell(load(story), line(typed))[1][0], number, (low, typed))
            if number:
                self.assertEqual(self.fault_in(story, typed), number)


class Overlaps(LineCase):
    def test_w_is_read_behind_the_letters(self):
        # w's byte 0 is the line's first letter by then.
        story = line_story(code=op("4:4", W(T), W(T + 1)), parts=((T + 1, [0]),))
        seen = Seen(story, [line("look")])
        self.assertEqual(seen.row(T + 1, 6), [ord("l"), 1] + two_bytes(entry_place(1)) + [4, 1])

    def test_the_dictionary_is_read_behind_the_letters(self):
        # s is the line's first letter, 32; each sign an x; e the line's last letter; c the 0 behind it and a byte.
        for many, found in ((0, 0), (1, T + 37)):
            story = new_story(op("4:4", W(T), W(64)), head={8: T + 1, 12: 400})
            put(story, T, [34])
            put(story, T + 36, [many] + [0x18, 0xA5, 0x94, 0xA5])
            put(story, 64, [40])
            seen = Seen(story, [line(" " + "x" * 32 + "a")])
            self.assertEqual((seen.number, seen.byte(65)), (0, 33))
            self.assertEqual(seen.row(66 + 4 * 32, 4), two_bytes(found) + [1, 34])

    def test_words_are_taken_apart_before_w_is_written(self):
        # w lies over the line's own letters; what was typed is looked up all the same.
        story = line_story(code=op("4:4", W(T), W(T + 4)), parts=((T + 4, [0]),))
        seen = Seen(story, [line("a, look")])
        self.assertEqual(seen.byte(T + 5), 3)
        self.assertEqual(seen.row(T + 6 + 8, 4), two_bytes(entry_place(1)) + [4, 4])

    def test_later_words_see_what_was_written_for_earlier_ones(self):
        # w's bytes 0 and 1 are the first entry's last; the first word's four bytes stand over the second entry.
        second = entry_place(1)
        story = line_story(book=dictionary([LAMP, LOOK]), code=op("4:4", W(T), W(second - 2)))
        story[second - 2] = 9
        seen = Seen(story, [line("look look")])
        self.assertEqual(seen.row(second - 2, 10), [9, 2] + two_bytes(second) + [4, 1, 0, 0, 4, 6])


if __name__ == "__main__":
    unittest.main()
