"""name, text, prop, word, code: what they tell, what they refuse, and that they change nothing."""

import random
import unittest

from storymachine.machine import new_machine
from storymachine.questions import find_question
from storymachine.steps import run_machine
from storymachine.stories import answers
from tests.helper import (
    ABBREVIATIONS, BEGIN, DICTIONARY, FREE, SIZE, STAND, THINGS, VARIABLES, B, V, W, ask_code, ask_name, ask_prop, ask_text,
    ask_word, byte, everything, letters, line, load, new_story, op, put, run, signs, tell, text_words, thing, thing_bytes, thing_part,
    two_bytes,
)

LARGEST = 2 ** 64 - 1
NOT_THERE = (-3, [], [])
UNFIT = (-1, [], [])
TOO_MUCH = (-2, [], [])

LAMP = [0x44, 0xD2, 0xD4, 0xA5]  # 17 6 18, 21 5 5
LOOK = [0x46, 0x94, 0xC0, 0xA5]  # 17 20 20, 16 5 5
NOTHING = [0x14, 0xA5, 0x94, 0xA5]  # 5 5 5, 5 5 5


def asked(call, *parts, **story):
    """What a call on a story just loaded is answered by."""
    return tell(load(new_story([], parts=parts, **story)), call)[-1]


def abbreviation_part(five, x, place):
    return (ABBREVIATIONS + 2 * (32 * (five - 1) + x), two_bytes(place // 2))


def told(text, *further):
    return (len(text), signs(text), list(further))


# Texts, each with a fault of another kind: an abbreviation whose text is just, or far, beyond the story's end, or has
# no end; one in an abbreviation, also as its last five; more than 256 bytes together, and in an abbreviation alone.
BAD_TEXTS = (
    (text_words([1, 0, 6]), ((ABBREVIATIONS, two_bytes(SIZE // 2)),)),
    (text_words([1, 0, 6]), ((ABBREVIATIONS, two_bytes(65535)),)),
    (text_words([1, 0, 6]), ((ABBREVIATIONS, two_bytes(SIZE // 2 - 1)), (SIZE - 2, [0, 0]))),
    (text_words([1, 0, 6]), ((ABBREVIATIONS, two_bytes(480)), (960, text_words([6, 1, 0])))),
    (text_words([1, 0, 6]), ((ABBREVIATIONS, two_bytes(480)), (960, text_words([6, 6, 3])))),
    (text_words([1, 0, 1, 0, 6]), ((ABBREVIATIONS, two_bytes(150)), (300, text_words([6] * 128)))),
    (text_words([1, 0, 6]), ((ABBREVIATIONS, two_bytes(150)), (300, text_words([6] * 258)))),
)


class Refused(unittest.TestCase):
    def test_before_a_story(self):
        for number in (0, 1, 255, 256, SIZE, LARGEST):
            for call in (ask_name(number), ask_text(number), ask_prop(number, 1), ask_prop(1, number)):
                self.assertEqual(answers(call), [3, -8, 0, 0])
        for row in ([], signs("look"), [31], [32] * 255, [32] * 256, [0] * 300):
            self.assertEqual(answers(ask_word(row)), [3, -8, 0, 0])

    def test_behind_a_refused_load(self):
        calls = [ask_name(1), ask_text(64), ask_prop(1, 1), ask_word("look")]
        self.assertEqual(tell(load([3] * 10), *calls)[1:], [(-8, [], [])] * 4)

    def test_a_refused_load_leaves_the_story_that_is_asked_of(self):
        story = new_story([], parts=((FREE, text_words(letters("here"))),))
        self.assertEqual(tell(load(story), load([3] * 10), ask_text(FREE))[-1], told("here", FREE + 4))

    def test_code_needs_no_story(self):
        self.assertEqual(answers(ask_code("look")), [7, 0, 4] + LOOK + [0])
        self.assertEqual(answers(ask_code([31])), [3, -1, 0, 0])
        self.assertEqual(answers(ask_code([32] * 256)), [3, -2, 0, 0])
        told = tell(ask_code("look"), load([3] * 10), ask_code("look"), load(new_story([])), ask_code("look"))
        self.assertEqual([told[i] for i in (0, 2, 4)], [(0, LOOK, [])] * 3)


class Form(unittest.TestCase):
    def test_the_numbers_of_each_answer(self):
        parts = (thing_part(1, properties=FREE), (FREE, [2] + text_words(letters("lamp")) + [37, 1, 2, 0]))
        parts += ((DICTIONARY, [0, 4, 0, 1] + LAMP),)
        calls = ask_name(1) + ask_text(FREE + 1) + ask_prop(1, 5) + ask_word("lamp") + ask_code("lamp")
        expected = [7, 4, 4] + signs("lamp") + [0]
        expected += [8, 4, 4] + signs("lamp") + [1, FREE + 5]
        expected += [5, 0, 0, 2, FREE + 6, 2]
        expected += [3, DICTIONARY + 4, 0, 0]
        expected += [7, 0, 4] + LAMP + [0]
        self.assertEqual(answers(load(new_story([], parts=parts)) + calls)[4:], expected)

    def test_the_numbers_of_refusals(self):
        calls = ask_name(0) + ask_text(SIZE) + ask_prop(0, 1) + ask_word([1]) + ask_code([1])
        expected = [3, -3, 0, 0] * 3 + [3, -1, 0, 0] * 2
        self.assertEqual(answers(load(new_story([])) + calls)[4:], expected)

    def test_where_nothing_is_told_but_the_number(self):
        parts = (thing_part(1, properties=FREE), (FREE, [0, 0]), (950, text_words([5, 5, 5])), (DICTIONARY, [0, 4, 0, 0]))
        calls = ask_name(1) + ask_text(950) + ask_word("")
        expected = [3, 0, 0, 0] + [4, 0, 0, 1, 952] + [3, 0, 0, 0]
        self.assertEqual(answers(load(new_story([], parts=parts)) + calls)[4:], expected)

    def test_whole_numbers_alone_and_the_list_is_left(self):
        parts = (thing_part(1, properties=FREE), (FREE, [1] + text_words([6, 4, 7]) + [1, 5, 0]), (DICTIONARY, [0, 4, 0, 0]))
        calls = load(new_story([], parts=parts)) + ask_name(1) + ask_text(FREE + 1) + ask_prop(1, 1) + ask_prop(1, 2)
        calls += ask_word("Look") + ask_code("Look")
        before = list(calls)
        first = answers(calls)
        self.assertEqual(calls, before)
        self.assertTrue(all(type(number) is int for number in first))
        self.assertEqual(answers(calls), first)


class Name(unittest.TestCase):
    def name(self, row, *parts):
        return asked(ask_name(3), thing_part(3, properties=FREE), (FREE, row), *parts)

    def test_names(self):
        self.assertEqual(self.name([1] + text_words(letters("box"))), told("box"))
        self.assertEqual(self.name([3] + text_words([4, 17] + letters("amp is") + [5, 20])), told("Lamp is!"))
        parts = ((950, text_words(letters("the "))), abbreviation_part(2, 7, 950))
        self.assertEqual(self.name([2] + text_words([2, 7] + letters("lid")), *parts), told("the lid"))

    def test_h_of_0(self):
        # What stands behind it is no text of its own, whatever it would say.
        self.assertEqual(self.name([0] + text_words(letters("lamp"))), (0, [], []))
        self.assertEqual(self.name([0, 0, 0, 0]), (0, [], []))
        self.assertEqual(asked(ask_name(3), thing_part(3, properties=SIZE - 1)), (0, [], []))

    def test_a_name_that_says_nothing(self):
        self.assertEqual(self.name([1] + text_words([5, 5, 5])), (0, [], []))

    def test_the_text_may_end_before_h_does(self):
        self.assertEqual(self.name([3] + text_words(letters("box")) + [0] * 4), told("box"))

    def test_numbers_of_things(self):
        for number in (0, 256, 257, 65536 + 3, LARGEST):
            self.assertEqual(asked(ask_name(number), thing_part(3, properties=FREE)), NOT_THERE, number)
        parts = (thing_part(1, properties=FREE), (FREE, [1] + text_words(letters("one"))))
        self.assertEqual(asked(ask_name(1), *parts), told("one"))
        # Thing 255 has no room in any story.
        self.assertEqual(asked(ask_name(255), size=2048, head={10: 0, 6: 64}), NOT_THERE)

    def test_the_last_thing_that_is_there(self):
        text = [1] + text_words(letters("end"))
        story = new_story([], size=2048, head={10: 0})
        put(story, 62 + 9 * 219, thing_bytes(properties=FREE))
        put(story, FREE, text)
        self.assertEqual(tell(load(story), ask_name(220), ask_name(221))[1:], [told("end"), NOT_THERE])
        for missing in range(1, 10):
            row = thing_bytes(properties=FREE)[:9 - missing]
            found = asked(ask_name(1), (SIZE - len(row), row), (FREE, text), head={10: SIZE - len(row) - 62})
            self.assertEqual(found, NOT_THERE, missing)
        row = thing_bytes(properties=FREE)
        self.assertEqual(asked(ask_name(1), (SIZE - 9, row), (FREE, text), head={10: SIZE - 9 - 62}), told("end"))

    def test_its_place_beyond_the_end(self):
        for place in (SIZE, SIZE + 1, 65535):
            self.assertEqual(asked(ask_name(3), thing_part(3, properties=place)), UNFIT)
        # A thing that isn't there is told first.
        self.assertEqual(asked(ask_name(0), thing_part(3, properties=SIZE)), NOT_THERE)

    def test_its_text_at_the_end(self):
        row = [1] + text_words(letters("end"))
        for many, answer in ((3, told("end")), (2, UNFIT), (1, UNFIT)):
            place = SIZE - many
            self.assertEqual(asked(ask_name(3), thing_part(3, properties=place), (place, row[:many])), answer)

    def test_its_text_has_a_fault(self):
        for text, parts in BAD_TEXTS:
            self.assertEqual(self.name([len(text) // 2] + text, *parts), UNFIT, text)
        place = SIZE - 5
        self.assertEqual(asked(ask_name(3), thing_part(3, properties=place), (place, [2, 6, 6, 6, 6])), UNFIT)

    def test_256_bytes(self):
        for many, answer in ((256, told("a" * 256)), (257, UNFIT)):
            text = text_words([6] * many)
            parts = (thing_part(1, properties=600), (600, [len(text) // 2] + text))
            self.assertEqual(asked(ask_name(1), *parts, head={8: 64}), answer)

    def test_it_is_told_as_it_is_now(self):
        # The word that tells where the properties are is written over.
        code = op("4:1", W(THINGS + 62 + 7), B(0), W(950))
        parts = (thing_part(1, properties=FREE), (FREE, [1] + text_words(letters("old"))), (950, [1] + text_words(letters("new"))))
        found = tell(load(new_story(code, parts=parts)), ask_name(1), run(1), ask_name(1))
        self.assertEqual([found[1], found[3]], [told("old"), told("new")])


class Text(unittest.TestCase):
    def test_texts(self):
        for text, row in (
            ("box", letters("box")), ("two words", letters("two words")), ("Aa 0\n", [4, 6, 6, 0, 5, 8, 5, 7]),
            ("~?A", [5, 6, 3, 30, 5, 6, 0, 1, 5, 6, 2, 1]), ("ab", [6, 7, 1]), ("ab", [6, 7, 4]), ("a", [6, 5, 6]),
        ):
            row = text_words(row)
            for place in (FREE, FREE + 1):
                self.assertEqual(asked(ask_text(place), (place, row)), told(text, place + len(row)), text)

    def test_the_place_behind_it(self):
        # What an abbreviation's text is long doesn't count, nor what stands behind the text's end.
        parts = ((950, text_words(letters("what a long one"))), abbreviation_part(3, 31, 950))
        row = text_words([3, 31, 6])
        parts += ((FREE, row + text_words(letters("behind"))),)
        self.assertEqual(asked(ask_text(FREE), *parts), told("what a long onea", FREE + 2))
        self.assertEqual(asked(ask_text(FREE + 2), *parts), told("behind", FREE + 6))

    def test_a_text_that_says_nothing(self):
        for row in ([5, 5, 5], [4, 4, 1], [5, 6, 0, 0, 5, 5]):
            row = text_words(row)
            self.assertEqual(asked(ask_text(FREE), (FREE, row)), (0, [], [FREE + len(row)]))

    def test_the_storys_end(self):
        row = text_words(letters("end"))
        for place, answer in (
            (SIZE - 2, told("end", SIZE)), (SIZE - 1, UNFIT), (SIZE, NOT_THERE), (SIZE + 1, NOT_THERE), (LARGEST, NOT_THERE),
        ):
            self.assertEqual(asked(ask_text(place), (SIZE - 2, row)), answer, place)

    def test_the_smallest_and_the_largest_story(self):
        for size in (64, 2048):
            story = [0] * size
            story[0] = 3
            put(story, 14, two_bytes(64))
            put(story, size - 2, text_words(letters("end")))
            found = tell(load(story), ask_text(size - 2), ask_text(size - 1), ask_text(size))
            self.assertEqual(found[1:], [told("end", size), UNFIT, NOT_THERE])

    def test_a_text_at_0(self):
        # Byte 0 is 3, byte 1 is 0: the fives 0, 24, 0; the word behind it ends the text.
        self.assertEqual(asked(ask_text(0), (2, text_words(letters("abc")))), told(" s abc", 4))

    def test_no_end(self):
        self.assertEqual(asked(ask_text(SIZE - 2)), UNFIT)
        self.assertEqual(asked(ask_text(SIZE - 3), (SIZE - 3, [0, 0, 128])), UNFIT)
        self.assertEqual(asked(ask_text(FREE)), UNFIT)

    def test_faults(self):
        for text, parts in BAD_TEXTS:
            self.assertEqual(asked(ask_text(FREE), (FREE, text), *parts), UNFIT, text)
        # The word of an abbreviation beyond the end, and just within it.
        row = (FREE, text_words([1, 1, 6]))
        self.assertEqual(asked(ask_text(FREE), row, head={24: SIZE - 2}), UNFIT)
        parts = (row, (SIZE - 2, two_bytes(475)), (950, text_words(letters("yes"))))
        self.assertEqual(asked(ask_text(FREE), *parts, head={24: SIZE - 4}), told("yesa", FREE + 2))

    def test_256_bytes(self):
        for many, answer in ((255, True), (256, True), (257, False), (258, False)):
            row = text_words([6] * many)
            expected = told("a" * many, 700 + len(row)) if answer else UNFIT
            self.assertEqual(asked(ask_text(700), (700, row)), expected)
        parts = ((300, text_words([6] * 128)), abbreviation_part(1, 0, 300))
        self.assertEqual(asked(ask_text(FREE), *parts, (FREE, text_words([1, 0, 1, 0]))), told("a" * 256, FREE + 4))
        self.assertEqual(asked(ask_text(FREE), *parts, (FREE, text_words([1, 0, 1, 0, 6]))), UNFIT)

    def test_it_is_told_as_it_is_now(self):
        # The text is written over; where the abbreviations are was taken when the story was loaded.
        code = op("4:1", W(FREE), B(0), W(32768 + 1024 + 6)) + op("4:1", B(24), B(0), W(64))
        parts = ((FREE, text_words(letters("old"))), (950, text_words(letters("new"))), abbreviation_part(1, 0, 950))
        found = tell(load(new_story(code, parts=parts)), ask_text(FREE), run(2), ask_text(FREE))
        self.assertEqual([found[1], found[3]], [told("old", FREE + 2), told("newa", FREE + 2)])


class Prop(unittest.TestCase):
    # Name of one word; property 20 of one byte, 10 of two, 10 again, 31 of three, 1 of eight.
    ROW = [1, 0x80, 0, 20, 77, 42, 1, 2, 42, 3, 4, 95, 1, 2, 3, 225, 1, 2, 3, 4, 5, 6, 7, 8, 0]

    def prop(self, wanted, row=None, number=2):
        row = self.ROW if row is None else row
        return asked(ask_prop(number, wanted), thing_part(2, properties=FREE), (FREE, row))

    def test_properties(self):
        for wanted, place, length in ((20, 4, 1), (10, 6, 2), (31, 12, 3), (1, 16, 8)):
            self.assertEqual(self.prop(wanted), (0, [], [FREE + place, length]))

    def test_none_such(self):
        for wanted in (2, 5, 9, 11, 30):
            self.assertEqual(self.prop(wanted), NOT_THERE, wanted)
        # Not even where the things have a common value.
        self.assertEqual(asked(ask_prop(2, 2), (THINGS, [9] * 62), thing_part(2, properties=FREE)), NOT_THERE)
        # What stands behind the byte 0 doesn't count.
        self.assertEqual(self.prop(7, [0, 6, 1, 0, 7, 1, 0]), NOT_THERE)
        self.assertEqual(self.prop(7, [0, 0, 7, 1, 0]), NOT_THERE)

    def test_numbers_of_properties(self):
        # A property 0 of two bytes stands there, but none is asked for by that number; it doesn't end the row.
        row = [0, 32, 9, 9, 1, 5, 31, 6, 0]
        for wanted, answer in (
            (0, NOT_THERE), (1, (0, [], [FREE + 5, 1])), (31, (0, [], [FREE + 7, 1])), (32, NOT_THERE), (33, NOT_THERE),
            (63, NOT_THERE), (LARGEST, NOT_THERE),
        ):
            self.assertEqual(self.prop(wanted, row), answer, wanted)

    def test_numbers_of_things(self):
        for number in (0, 255, 256, 258, LARGEST):
            self.assertEqual(self.prop(20, number=number), NOT_THERE, number)
        self.assertEqual(asked(ask_prop(1, 20), thing_part(1, properties=FREE), (FREE, self.ROW)), (0, [], [FREE + 4, 1]))
        self.assertEqual(self.prop(32, number=0), NOT_THERE)

    def test_the_last_thing_that_is_there(self):
        row = thing_bytes(properties=FREE)
        for many, answer in ((9, (0, [], [FREE + 4, 1])), (8, NOT_THERE), (1, NOT_THERE)):
            parts = ((SIZE - many, row[:many]), (FREE, self.ROW))
            self.assertEqual(asked(ask_prop(1, 20), *parts, head={10: SIZE - many - 62}), answer)
        story = new_story([], size=2048, head={10: 0})
        put(story, 62 + 9 * 219, row)
        put(story, FREE, self.ROW)
        self.assertEqual(tell(load(story), ask_prop(220, 20), ask_prop(221, 20))[1:], [(0, [], [FREE + 4, 1]), NOT_THERE])

    def test_the_storys_end(self):
        # (what stands at the end, the property asked for, where its bytes are from there on, how many)
        for row, wanted, place, length in (
            ([0, 7, 1], 7, 2, 1), ([0, 7], 7, 2, 1), ([0, 39], 7, 2, 2), ([0, 231], 7, 2, 8), ([0, 231, 1, 2], 7, 2, 8),
            ([0, 6, 1, 7], 7, 4, 1), ([0, 6, 1, 231], 7, 4, 8),
        ):
            at = SIZE - len(row)
            found = asked(ask_prop(2, wanted), thing_part(2, properties=at), (at, row))
            self.assertEqual(found, (0, [], [at + place, length]), row)

    def test_a_first_byte_beyond_the_end(self):
        for row in ([0], [0, 6], [0, 6, 1], [0, 38, 1], [0, 230], [1], [1, 0, 0], [255, 7, 1], [0, 6, 1, 230, 1, 2, 3]):
            at = SIZE - len(row)
            self.assertEqual(asked(ask_prop(2, 7), thing_part(2, properties=at), (at, row)), NOT_THERE, row)
        for place in (SIZE, SIZE + 1, 65535):
            self.assertEqual(asked(ask_prop(2, 7), thing_part(2, properties=place)), NOT_THERE)

    def test_the_names_text_is_not_read(self):
        # No end and a wrong abbreviation: the property is found all the same.
        self.assertEqual(self.prop(7, [1, 4, 32, 7, 1, 0]), (0, [], [FREE + 4, 1]))

    def test_it_is_told_as_it_is_now(self):
        code = op("4:2", W(FREE + 1), B(0), B(38))
        parts = (thing_part(2, properties=FREE), (FREE, [0, 7, 1, 7, 2, 0]))
        found = tell(load(new_story(code, parts=parts)), ask_prop(2, 7), run(1), ask_prop(2, 7), ask_prop(2, 6))
        self.assertEqual([found[1], found[3], found[4]], [(0, [], [FREE + 2, 1]), NOT_THERE, (0, [], [FREE + 2, 2])])


def book(entries, parting=".,", length=7, count=None):
    row = [len(parting)] + signs(parting) + [length] + two_bytes(len(entries) if count is None else count)
    for entry in entries:
        row += entry + [0] * (length - 4)
    return row


def book_place(number, parting=".,", length=7):
    return DICTIONARY + 4 + len(parting) + number * length


def code_of(fives):
    first = 1024 * fives[0] + 32 * fives[1] + fives[2]
    return two_bytes(first) + two_bytes(32768 + 1024 * fives[3] + 32 * fives[4] + fives[5])


class Word(unittest.TestCase):
    def word(self, row, entries=(LAMP, LOOK), **values):
        return asked(ask_word(row), (DICTIONARY, book(list(entries), **values)))

    def at_the_end(self, row, stood):
        at = SIZE - len(stood)
        return asked(ask_word(row), (at, stood), head={8: at}), at

    def test_found(self):
        self.assertEqual(self.word("lamp"), (book_place(0), [], []))
        self.assertEqual(self.word("look"), (book_place(1), [], []))
        self.assertEqual(self.word("look", parting="", length=4), (book_place(1, "", 4), [], []))
        self.assertEqual(self.word("look", length=100), (book_place(1, length=100), [], []))

    def test_not_found(self):
        for row in ("", "loo", "lookk", "lo ok", "look ", " look", "l", "xyzzy", ",", "look,"):
            self.assertEqual(self.word(row), (0, [], []), row)
        self.assertEqual(self.word("look", ()), (0, [], []))
        # Entries behind the last don't count.
        self.assertEqual(self.word("look", count=1), (0, [], []))

    def test_longer_words_with_the_same_six_fives(self):
        entry = code_of(letters("lanter"))
        for row, place in (("lanter", book_place(1)), ("lantern", book_place(1)), ("lanterns", book_place(1)), ("lante", 0)):
            self.assertEqual(self.word(row, (LAMP, entry))[0], place)
        self.assertEqual(self.word("lanter" + "x" * 249, (LAMP, entry))[0], book_place(1))

    def test_no_letter_at_all(self):
        self.assertEqual(self.word("", (LAMP, NOTHING)), (book_place(1), [], []))

    def test_capital_letters_are_not_made_small(self):
        capital = code_of([5, 6, 2, 12, 20, 20])
        self.assertEqual(self.word("Look"), (0, [], []))
        self.assertEqual(self.word("LOOK"), (0, [], []))
        self.assertEqual(self.word("Look", (LOOK, capital)), (book_place(1), [], []))
        self.assertEqual(self.word("look", (LOOK, capital)), (book_place(0), [], []))

    def test_it_is_not_taken_apart(self):
        # Spaces and the dictionary's signs are letters like others.
        spaced = code_of([6, 5, 6, 1, 0, 7])
        comma = code_of([6, 5, 19, 7, 5, 5])
        self.assertEqual(self.word("a b", (LAMP, spaced, comma))[0], book_place(1))
        self.assertEqual(self.word("a,b", (LAMP, spaced, comma))[0], book_place(2))

    def test_the_first_of_two_alike(self):
        self.assertEqual(self.word("look", (LAMP, LOOK, LOOK)), (book_place(1), [], []))
        self.assertEqual(self.word("look", (LOOK, LOOK)), (book_place(0), [], []))

    def test_all_four_bytes_are_compared(self):
        for i in range(4):
            entry = list(LOOK)
            entry[i] ^= 1
            self.assertEqual(self.word("look", (entry,)), (0, [], []))

    def test_how_many_bytes(self):
        self.assertEqual(self.word("x" * 255), (0, [], []))
        self.assertEqual(self.word("x" * 256), TOO_MUCH)
        self.assertEqual(self.word([31] * 255), UNFIT)
        self.assertEqual(self.word([31] * 256), TOO_MUCH)
        self.assertEqual(self.word([0] * 5000), TOO_MUCH)

    def test_typed_bytes(self):
        for letter, answer in ((31, UNFIT), (32, (0, [], [])), (126, (0, [], [])), (127, UNFIT), (0, UNFIT), (255, UNFIT), (10, UNFIT)):
            self.assertEqual(self.word([letter]), answer, letter)
            self.assertEqual(self.word(signs("look") + [letter] + signs("x")), answer, letter)

    def test_the_dictionarys_head(self):
        for stood, answer in (
            ([0], UNFIT), ([0, 7], UNFIT), ([0, 7, 0], UNFIT), ([0, 7, 0, 0], (0, [], [])), ([2, 44], UNFIT), ([1, 44, 7, 0], UNFIT),
            ([255, 7, 0, 0], UNFIT), ([1, 44, 7, 0, 0], (0, [], [])),
        ):
            for row in ("look", ""):
                self.assertEqual(self.at_the_end(row, stood)[0], answer, stood)

    def test_the_length_of_an_entry(self):
        for length in (0, 1, 2, 3):
            for row in ("look", ""):
                self.assertEqual(asked(ask_word(row), (DICTIONARY, [0, length, 0, 0])), UNFIT)
                self.assertEqual(asked(ask_word(row), (DICTIONARY, [0, length, 0, 1] + LOOK)), UNFIT)
        self.assertEqual(asked(ask_word("look"), (DICTIONARY, [0, 4, 0, 1] + LOOK)), (DICTIONARY + 4, [], []))

    def test_entries_beyond_the_end(self):
        # The last entry's first four bytes must be in the story, not its others, and only if it is looked at.
        stood = [0, 7, 0, 2] + LAMP + [0, 0, 0] + LOOK
        for row, number in (("lamp", 4), ("look", 11)):
            answer, at = self.at_the_end(row, stood)
            self.assertEqual(answer, (at + number, [], []))
        self.assertEqual(self.at_the_end("xyzzy", stood)[0], (0, [], []))
        answer, at = self.at_the_end("lamp", stood[:-1])
        self.assertEqual(answer, (at + 4, [], []))
        self.assertEqual(self.at_the_end("look", stood[:-1])[0], UNFIT)
        self.assertEqual(self.at_the_end("xyzzy", stood[:-1])[0], UNFIT)
        self.assertEqual(self.at_the_end("xyzzy", [0, 4, 255, 255] + LAMP)[0], UNFIT)

    def test_too_many_bytes_go_before_a_fault_of_the_dictionary(self):
        self.assertEqual(asked(ask_word("x" * 256), (DICTIONARY, [0, 3, 0, 0])), TOO_MUCH)
        self.assertEqual(asked(ask_word("x"), (DICTIONARY, [0, 3, 0, 0])), UNFIT)

    def test_it_is_told_as_it_is_now(self):
        # The entry is written over; where the dictionary is was taken when the story was loaded.
        code = op("4:1", W(DICTIONARY + 4), B(0), W(0x4694)) + op("4:1", W(DICTIONARY + 4), B(1), W(0xC0A5))
        code += op("4:1", B(8), B(0), W(64))
        story = new_story(code, parts=((DICTIONARY, [0, 4, 0, 1] + LAMP),))
        found = tell(load(story), ask_word("lamp"), ask_word("look"), run(3), ask_word("lamp"), ask_word("look"))
        self.assertEqual([found[i][0] for i in (1, 2, 4, 5)], [DICTIONARY + 4, 0, 0, DICTIONARY + 4])


class Code(unittest.TestCase):
    def code(self, row):
        return tell(ask_code(row))[0]

    def test_codes(self):
        for row, fives in (
            ("", [5] * 6), ("a", [6, 5, 5, 5, 5, 5]), ("z", [31, 5, 5, 5, 5, 5]), ("abcde", [6, 7, 8, 9, 10, 5]),
            ("abcdef", [6, 7, 8, 9, 10, 11]), ("abcdefg", [6, 7, 8, 9, 10, 11]), ("0", [5, 8, 5, 5, 5, 5]),
            ("9a", [5, 17, 6, 5, 5, 5]), ("123", [5, 9, 5, 10, 5, 11]), ("1234", [5, 9, 5, 10, 5, 11]),
            ("it's", [14, 25, 5, 24, 24, 5]), ("A", [5, 6, 2, 1, 5, 5]), ("Z", [5, 6, 2, 26, 5, 5]), (" ", [5, 6, 1, 0, 5, 5]),
            ("Ab", [5, 6, 2, 1, 7, 5]), ("$", [5, 6, 1, 4, 5, 5]), ("~", [5, 6, 3, 30, 5, 5]), ("abc$", [6, 7, 8, 5, 6, 1]),
            ("abcd$", [6, 7, 8, 9, 5, 6]), ("abcde$", [6, 7, 8, 9, 10, 5]), ("abcde1", [6, 7, 8, 9, 10, 5]),
            ("ab$c", [6, 7, 5, 6, 1, 4]), ("$$", [5, 6, 1, 4, 5, 6]), ("@", [5, 6, 2, 0, 5, 5]), ("`", [5, 6, 3, 0, 5, 5]),
        ):
            self.assertEqual(self.code(row), (0, code_of(fives), []), row)
        self.assertEqual(self.code("look"), (0, LOOK, []))
        self.assertEqual(self.code("lamp"), (0, LAMP, []))
        self.assertEqual(self.code(""), (0, NOTHING, []))

    def test_each_typed_letter(self):
        third = "0123456789.,!?_#'\"/\\-:()"
        for letter in range(32, 127):
            sign = chr(letter)
            if "a" <= sign <= "z":
                fives = [letter - 91]
            elif sign in third:
                fives = [5, 8 + third.index(sign)]
            else:
                fives = [5, 6, letter // 32, letter % 32]
            self.assertEqual(self.code([letter]), (0, code_of((fives + [5] * 6)[:6]), []), sign)

    def test_how_many_bytes(self):
        self.assertEqual(self.code("look" + "x" * 251), (0, code_of(letters("lookxx")), []))
        self.assertEqual(self.code("x" * 256), TOO_MUCH)
        self.assertEqual(self.code([127] * 255), UNFIT)
        self.assertEqual(self.code([127] * 256), TOO_MUCH)
        self.assertEqual(self.code([0] * 15000), TOO_MUCH)

    def test_typed_bytes(self):
        for letter, number in ((31, -1), (32, 0), (126, 0), (127, -1), (0, -1), (255, -1), (10, -1)):
            # Also behind the letters that the code has room for.
            for row in ([letter], signs("abcdefgh") + [letter], [letter] + signs("abc")):
                self.assertEqual(self.code(row)[0], number, row)


class Agreement(unittest.TestCase):
    """What the calls tell and what a story does agree, on stories made by chance from fixed seeds."""

    def stood(self, chance):
        """Words of memory such that texts, names and properties of all sorts stand in them."""
        kinds = (list(range(32)), [0, 1, 4, 5, 6, 7], [6, 7, 8, 9], [5, 6, 2, 3])
        row = []
        while len(row) < 500:
            row += text_words([chance.choice(chance.choice(kinds)) for i in range(3 * chance.choice((1, 2, 3, 40)))])
            row += [0] * chance.randrange(3)
        return row[:500]

    def story(self, code, chance):
        things = []
        for k in range(12):
            things += thing_bytes(properties=chance.randrange(520, SIZE + 3))
        table = [part for i in range(96) for part in two_bytes(chance.randrange(260, SIZE // 2 + 2))]
        head = {8: 64, 10: 200, 24: 64}
        return new_story(code, parts=((262, things), (520, self.stood(chance)), (64, table)), at=400, head=head)

    def test_text_and_1_7(self):
        seen = {}
        for turn in range(300):
            chance = random.Random(turn)
            place = chance.randrange(520, SIZE + 2)
            done, text = tell(load(self.story(op("1:7", W(place)), chance)), run(1), ask_text(place))[1:]
            if place >= SIZE:
                self.assertEqual((done[0], text), (17, NOT_THERE))
            elif done[0] == 1:
                self.assertEqual(text[:2], (len(done[1]), done[1]))
            else:
                self.assertEqual(text, UNFIT)
            seen[done[0]] = True
        self.assertEqual(sorted(seen), [1, 17, 21])

    def test_name_and_1_10(self):
        seen = {}
        for turn in range(300):
            chance = random.Random(turn)
            k = chance.randrange(1, 13)
            done, name = tell(load(self.story(op("1:10", B(k)), chance)), run(1), ask_name(k))[1:]
            self.assertEqual(name, (len(done[1]), done[1], []) if done[0] == 1 else UNFIT)
            seen[done[0]] = True
        self.assertEqual(sorted(seen), [1, 17, 21])

    def test_prop_and_2_18_and_1_4(self):
        seen = {}
        for turn in range(300):
            chance = random.Random(turn)
            k = chance.randrange(1, 13)
            p = chance.randrange(1, 32)
            code = op("2:18", B(k), B(p), to=0) + op("4:6", V(0)) + op("2:18", B(k), B(p), to=0) + op("1:4", V(0), to=0) + op("4:6", V(0))
            story = self.story(code, chance)
            first, second, prop = tell(load(story), run(2), run(3), ask_prop(k, p))[1:]
            if first[0] == 1 and first[1] != signs("0"):
                self.assertEqual(prop, (0, [], [int(bytes(first[1])), int(bytes(second[1]))]))
                seen["found"] = True
            else:
                self.assertEqual(prop, NOT_THERE)
                seen[first[0]] = True
        self.assertEqual(sorted(seen, key=str), [1, 17, "found"])

    def test_word_and_code(self):
        # A word is found just if its code's bytes begin an entry, and then at the first such.
        found = 0
        for turn in range(200):
            chance = random.Random(turn)
            some = [[chance.choice(signs("abAB1, $")) for i in range(chance.randrange(4))] for k in range(12)]
            length = chance.choice((4, 5, 9))
            entries = [tell(ask_code(row))[0][1] for row in chance.sample(some, 7)]
            if chance.random() < 0.5:
                entries[3][chance.randrange(4)] ^= 1
            story = new_story([], parts=((DICTIONARY, book(entries, length=length)),))
            for row in some:
                word, code = tell(load(story), ask_word(row), ask_code(row))[1:]
                places = [book_place(i, length=length) for i, entry in enumerate(entries) if entry == code[1]]
                self.assertEqual(word, (places[0] if places else 0, [], []))
                found += word[0] > 0
        self.assertGreater(found, 400)

    def test_word_and_a_line(self):
        read = op("4:4", W(800), W(950))
        for row, entries in (
            ("look", [LAMP, LOOK]), ("lamp", [LAMP, LOOK]), ("xyzzy", [LAMP, LOOK]), ("a$b", [LAMP, code_of([6, 5, 6, 1, 4, 7])]),
            ("lanterns", [code_of(letters("lanter"))]),
        ):
            story = new_story(read, parts=((800, [20]), (950, [1]), (DICTIONARY, book(entries))))
            told = tell(load(story), ask_word(row), line(row), byte(952), byte(953), ask_word(row))
            self.assertEqual(256 * told[3][0] + told[4][0], told[1][0])
            self.assertEqual(told[1], told[5])


class ChangeNothing(unittest.TestCase):
    QUESTIONS = [
        ask_name(1), ask_name(2), ask_name(0), ask_text(FREE + 1), ask_text(FREE), ask_text(SIZE), ask_text(SIZE - 1),
        ask_prop(1, 5), ask_prop(1, 6), ask_prop(0, 0), ask_prop(2, 7), ask_word("lamp"), ask_word("xyzzy"), ask_word([1]),
        ask_word("x" * 256), ask_code("lamp"), ask_code([1]), ask_code("x" * 256), STAND, byte(64), thing(1),
    ]

    def story(self):
        """Keeps, draws, calls, says, writes over its own things, dictionary and texts, waits for lines, goes back."""
        code = op("4:8", B(7)) + op("0:5", go=(True, 2)) + op("4:7", W(1000), to=16) + op("4:6", V(16)) + op("1:10", B(1))
        code += op("4:0", W(250), B(3), to=17) + op("4:4", W(800), W(850)) + op("2:14", B(2), B(1)) + op("2:11", B(1), B(4))
        code += op("4:3", B(1), B(5), V(16)) + op("4:1", W(DICTIONARY + 4), B(0), V(16)) + op("1:7", W(FREE + 1))
        code += op("4:2", W(FREE + 2), B(0), B(200)) + op("4:4", W(800), W(850)) + op("0:6", go=(True, 2))
        routine = [2, 0, 5, 0, 6] + op("4:8", V(1)) + op("4:7", B(9), to=2) + op("4:6", V(2)) + op("0:3")
        routine += text_words(letters("in the routine"))
        parts = (
            (500, routine), (800, [30]), (850, [5]), (DICTIONARY, [1, 44, 4, 0, 1] + LAMP), thing_part(1, properties=FREE),
            (FREE, [2] + text_words(letters("lamp")) + [37, 1, 2, 0]), thing_part(2, properties=SIZE),
        )
        return new_story(code, parts=parts)

    def played(self, *between):
        """What runs, lines and bytes tell, with these calls between every two of them."""
        moves = []
        for turn in range(3):
            moves += [run(1)] * 6 + [run(9), line("Lamp, xyzzy"), run(3), run(20), line("look"), STAND, run(1), STAND]
        moves += [byte(place) for place in list(range(VARIABLES, VARIABLES + 6)) + list(range(800, 812))]
        calls = list(between) + [load(self.story(), 99)]
        kept = [len(between)]
        for move in moves:
            calls += list(between)
            kept.append(len(calls))
            calls.append(move)
        answered = tell(*calls)
        return [answered[i] for i in kept]

    def test_the_same_is_told_behind_them_as_without_them(self):
        without = self.played()
        self.assertEqual([answer[0] for answer in without[:15]], [0] + [1] * 6 + [2, 0, 1, 2, 0, 0, 1, 0])
        for question in self.QUESTIONS:
            self.assertEqual(self.played(question), without, question[:3])
        self.assertEqual(self.played(*self.QUESTIONS[:4]), without)

    def test_nothing_of_the_machine_is_changed(self):
        machine = new_machine(self.story(), 99)
        for turn in range(14):
            machine = run_machine(machine, 1).machine
            before = everything(machine)
            said = list(machine.said)
            given = list(machine.story.given)
            for call in self.QUESTIONS:
                rows = call[0] in (9, 10)
                find_question(call[0])(machine, [] if rows else call[1:], call[2:] if rows else [])
                self.assertEqual(everything(machine), before)
                self.assertEqual((machine.said, machine.story.given), (said, given))

    def test_they_are_answered_alike_each_time(self):
        told = tell(load(self.story(), 5), run(3), *self.QUESTIONS, *self.QUESTIONS)[2:]
        many = len(self.QUESTIONS)
        self.assertEqual(told[:many], told[many:])

    def test_while_a_line_is_waited_for(self):
        story = self.story()
        told = tell(load(story), run(99), *self.QUESTIONS, run(1), STAND, line("lamp"), run(0))
        quiet = tell(load(story), run(99), run(1), STAND, line("lamp"), run(0))
        self.assertEqual(quiet[1][0], 2)
        self.assertEqual(told[-4:], quiet[-4:])

    def test_at_a_fault_and_at_the_end(self):
        for code, number in (([0], 16), (op("0:9"), 18), (op("0:10"), 0)):
            story = new_story(code)
            told = tell(load(story), run(3), *self.QUESTIONS, run(3), STAND)
            self.assertEqual([told[1][0], told[-2][0]], [number, number])
            self.assertEqual(told[-1], (0, [], [BEGIN, 0, 0]))


if __name__ == "__main__":
    unittest.main()
