"""Text: alphabets, abbreviations, letters of ten bits, its end, its length; and what says it."""

import unittest

from tests.helper import (
    ABBREVIATIONS, BEGIN, FREE, SIZE, B, V, W, do, fault_of, letters, new_story, op, put, text_words, thing_part,
    two_bytes,
)

THIRD = "\n0123456789.,!?_#'\"/\\-:()"


def fault(code, steps=0, **story):
    return fault_of(new_story(code, **story), steps)


def abbreviation_part(five, x, place):
    return (ABBREVIATIONS + 2 * (32 * (five - 1) + x), two_bytes(place // 2))


class Spelling(unittest.TestCase):
    def said(self, fives, parts=()):
        seen = do(op("1:7", W(FREE)), parts=((FREE, text_words(fives)),) + tuple(parts))
        self.assertEqual((seen.number, seen.place), (1, BEGIN + 3))
        return seen.said

    def fault(self, fives, parts=(), **story):
        return fault(op("1:7", W(FREE)), parts=((FREE, text_words(fives)),) + tuple(parts), **story)

    def test_first_alphabet(self):
        self.assertEqual(self.said(list(range(6, 32))), "abcdefghijklmnopqrstuvwxyz")
        self.assertEqual(self.said(letters("two  words")), "two  words")

    def test_second_alphabet(self):
        for five in range(6, 32):
            self.assertEqual(self.said([4, five, five]), chr(59 + five) + chr(91 + five))

    def test_third_alphabet(self):
        self.assertEqual(len(THIRD), 25)
        for five in range(7, 32):
            self.assertEqual(self.said([5, five, five]), THIRD[five - 7] + chr(91 + five))

    def test_of_the_next_five_alone(self):
        self.assertEqual(self.said([4, 6, 6, 5, 8, 6]), "Aa0a")

    def test_usual_meaning_behind_a_4_or_5(self):
        self.assertEqual(self.said([4, 0, 6]), " a")
        self.assertEqual(self.said([5, 0, 6]), " a")
        self.assertEqual(self.said([4, 4, 6]), "A")
        self.assertEqual(self.said([4, 5, 8]), "0")
        self.assertEqual(self.said([5, 4, 6]), "A")
        self.assertEqual(self.said([5, 5, 5, 5, 8, 6]), "0a")
        parts = ((950, text_words(letters("xyz"))), abbreviation_part(1, 6, 950))
        self.assertEqual(self.said([4, 1, 6, 6], parts), "xyza")
        self.assertEqual(self.said([5, 1, 6, 6], parts), "xyza")

    def test_letters_of_ten_bits(self):
        for letter, told in (
            (65, "A"), (126, "~"), (32, " "), (13, "\n"), (0, ""), (10, "?"), (127, "?"), (31, "?"), (1, "?"), (155, "?"),
            (1023, "?"), (9, "?"), (63, "?"),
        ):
            self.assertEqual(self.said([6, 5, 6, letter // 32, letter % 32, 7]), "a" + told + "b", letter)

    def test_fives_of_a_ten_bit_letter_have_no_other_meaning(self):
        # 2 and 1 are 65: no abbreviations; 3, 5 is 101.
        self.assertEqual(self.said([5, 6, 2, 1, 5, 6, 3, 5, 8]), "Aec")

    def test_a_ten_bit_letter_just_at_the_end(self):
        self.assertEqual(self.said([6, 6, 5, 6, 2, 1]), "aaA")

    def test_6_in_the_first_and_second_is_a_letter(self):
        self.assertEqual(self.said([6, 4, 6]), "aA")

    def test_cut_short_by_the_end(self):
        self.assertEqual(self.said([6, 7, 4]), "ab")
        self.assertEqual(self.said([6, 7, 5]), "ab")
        self.assertEqual(self.said([6, 5, 6]), "a")
        self.assertEqual(self.said([5, 6, 2]), "")
        self.assertEqual(self.said([6, 7, 8, 6, 5, 6]), "abca")
        for five in (1, 2, 3):
            self.assertEqual(self.said([6, 7, five]), "ab")
            self.assertEqual(self.said([6, 4, five]), "a")

    def test_ends_with_the_word_whose_bit_15_is_set(self):
        parts = ((FREE + 2, text_words(letters("xyz"))),)
        self.assertEqual(self.said(letters("abc"), parts), "abc")
        self.assertEqual(self.said([0, 0, 0], parts), "   ")
        self.assertEqual(self.said(letters("zzza")), "zzza")

    def test_abbreviations(self):
        parts = []
        for five in (1, 2, 3):
            for x, last in ((0, 6), (4, 7), (31, 8)):
                place = 950 + 2 * len(parts)
                parts.append((place, text_words([6 + five, 0, last])))
                parts.append(abbreviation_part(five, x, place))
        self.assertEqual(self.said([1, 0], parts), "b a")
        self.assertEqual(self.said([1, 4], parts), "b b")
        self.assertEqual(self.said([1, 31], parts), "b c")
        self.assertEqual(self.said([2, 0], parts), "c a")
        self.assertEqual(self.said([2, 31, 25, 3, 4, 6], parts), "c ctd ba")

    def test_an_abbreviation_begins_and_ends_with_the_first_alphabet(self):
        parts = ((950, text_words([6, 7, 4])), abbreviation_part(1, 0, 950))
        self.assertEqual(self.said([4, 1, 0, 6], parts), "aba")

    def test_no_abbreviation_in_one(self):
        for inner in ([1, 0, 0], [6, 2, 6], [6, 7, 3], [6, 7, 1], [4, 1, 5]):
            parts = ((950, text_words(inner)), abbreviation_part(1, 0, 950))
            self.assertEqual(self.fault([6, 1, 0], parts), 21, inner)
        parts = ((950, text_words([5, 6, 2, 1, 6, 6])), abbreviation_part(1, 0, 950))
        self.assertEqual(self.said([1, 0], parts), "Aaa")

    def test_places_of_abbreviations(self):
        # The text, then the word, just inside and just beyond the story's end.
        last = SIZE - 2
        parts = ((last, text_words(letters("end"))), abbreviation_part(1, 0, last))
        self.assertEqual(self.said([1, 0], parts), "end")
        self.assertEqual(self.fault([1, 0], (abbreviation_part(1, 0, SIZE),)), 17)
        self.assertEqual(self.fault([1, 0], ((ABBREVIATIONS, two_bytes(65535)),)), 17)
        self.assertEqual(self.fault([1, 0], (abbreviation_part(1, 0, last),)), 17)
        self.assertEqual(self.fault([3, 31], head={24: SIZE - 2}), 17)
        parts = ((SIZE - 2, two_bytes(FREE // 2)),)
        self.assertEqual(self.fault([1, 1], parts, head={24: SIZE - 2}), 17)

    def test_all_words_are_read_first(self):
        # A wrong abbreviation in the first word, and no end before the story's: 17, not 21.
        bad = ((950, text_words([1, 0, 0])), abbreviation_part(1, 0, 950))
        row = text_words([1, 0, 6])
        row[0] -= 128
        code = op("1:7", W(SIZE - 2))
        self.assertEqual(fault(code, parts=bad + ((SIZE - 2, row),)), 17)
        self.assertEqual(fault(code, parts=bad + ((SIZE - 2, text_words([1, 0, 6])),)), 21)

    def test_piece_by_piece(self):
        bad = ((950, text_words([1, 0, 0])), abbreviation_part(1, 0, 950), abbreviation_part(1, 1, SIZE))
        self.assertEqual(self.fault([1, 0, 1, 1], bad), 21)
        self.assertEqual(self.fault([1, 1, 1, 0], bad), 17)

    def test_256_bytes(self):
        for many, number in ((256, 1), (257, 21), (258, 21)):
            fives = [6] * many
            parts = ((FREE - 200, text_words(fives)),)
            seen = do(op("1:7", W(FREE - 200)), parts=parts)
            self.assertEqual((seen.number, len(seen.said)), (number, many if number == 1 else 0))

    def test_256_bytes_of_abbreviations(self):
        parts = ((950, text_words([6] * 63)), abbreviation_part(1, 0, 950))
        self.assertEqual(len(self.said([1, 0] * 4 + [6] * 4, parts)), 256)
        self.assertEqual(self.fault([1, 0] * 4 + [6] * 5, parts), 21)

    def test_what_says_nothing_is_not_counted(self):
        fives = [6] * 255 + [5, 6, 0, 0, 6, 4]
        seen = do(op("1:7", W(700)), parts=((700, text_words(fives)),))
        self.assertEqual((seen.number, len(seen.said)), (1, 256))

    def test_the_length_is_looked_at_last(self):
        fives = [6] * 300 + [1, 1]
        parts = ((650, text_words(fives)), (950, two_bytes(SIZE // 2)))
        self.assertEqual(fault(op("1:7", W(650)), parts=parts, head={24: 948}), 17)

    def test_the_length_of_an_abbreviation_is_not_looked_at_by_itself(self):
        # Abbreviation 0 alone is too long; 1 is beyond the end, 2 has an abbreviation in it, 3 says three letters.
        parts = ((300, text_words([6] * 258)), (950, text_words([1, 0, 0])), (960, text_words(letters("end"))))
        parts += (abbreviation_part(1, 0, 300), abbreviation_part(1, 1, SIZE), abbreviation_part(1, 2, 950))
        parts += (abbreviation_part(1, 3, 960),)
        for fives, number in (
            ([1, 0], 21), ([1, 0, 1, 3], 21), ([1, 0, 6, 6, 1, 1], 17), ([1, 1, 1, 0], 17), ([1, 0, 1, 2, 1, 1], 21),
            ([1, 0, 1, 1, 1, 2], 17), ([1, 0, 1, 0, 1, 1], 17), ([1, 3, 1, 0, 1, 3], 21),
        ):
            text = text_words(fives)
            stood = parts + (thing_part(2, properties=FREE - 1), (FREE - 1, [len(text) // 2] + text))
            for code in (op("0:2") + text, op("0:3") + text, op("1:7", W(FREE)), op("1:13", W(FREE // 2)), op("1:10", B(2))):
                self.assertEqual(fault(code, at=600, parts=stood), number, (code, fives))

    def test_the_same_abbreviation_again(self):
        parts = ((950, text_words(letters("xyz"))), abbreviation_part(1, 0, 950), abbreviation_part(2, 0, 960))
        parts += ((960, text_words(letters("uvw"))),)
        self.assertEqual(self.said([1, 0, 1, 0, 2, 0, 1, 0, 6], parts), "xyzxyzuvwxyza")


class Saying(unittest.TestCase):
    def test_1_7_at_the_storys_end(self):
        row = text_words(letters("end"))
        self.assertEqual(do(op("1:7", W(SIZE - 2)), parts=((SIZE - 2, row),)).said, "end")
        self.assertEqual(do(op("1:7", W(901)), parts=((901, row),)).said, "end")
        for place in (SIZE - 1, SIZE, 65535):
            self.assertEqual(fault(op("1:7", W(place)), parts=((SIZE - 2, row),)), 17)
        self.assertEqual(fault(op("1:7", W(SIZE - 2))), 17)

    def test_1_13(self):
        self.assertEqual(do(op("1:13", W(450)), parts=((900, text_words(letters("twice"))),)).said, "twice")
        self.assertEqual(fault(op("1:13", W(SIZE // 2))), 17)
        self.assertEqual(fault(op("1:13", W(65535))), 17)

    def test_1_10(self):
        parts = (thing_part(3, properties=FREE), (FREE, [2] + text_words([4, 17, 6, 18, 21, 5]) + [0]))
        self.assertEqual(do(op("1:10", B(3)), parts=parts).said, "Lamp")

    def test_1_10_without_a_name(self):
        parts = (thing_part(3, properties=FREE), (FREE, [0] + text_words(letters("lamp"))))
        seen = do(op("1:10", B(3)), parts=parts)
        self.assertEqual((seen.number, seen.said), (1, ""))
        seen = do(op("1:10", B(3)), parts=(thing_part(3, properties=SIZE - 1),))
        self.assertEqual((seen.number, seen.said), (1, ""))

    def test_faults_of_1_10(self):
        self.assertEqual(fault(op("1:10", B(0))), 19)
        self.assertEqual(fault(op("1:10", W(256))), 19)
        self.assertEqual(fault(op("1:10", B(255))), 17)
        self.assertEqual(fault(op("1:10", B(3)), parts=(thing_part(3, properties=SIZE),)), 17)
        self.assertEqual(fault(op("1:10", B(3)), parts=(thing_part(3, properties=SIZE - 3), (SIZE - 3, [1]))), 17)
        parts = (thing_part(3, properties=FREE), (FREE, [1] + text_words([1, 0, 6])), abbreviation_part(1, 0, 950))
        parts += ((950, text_words([1, 0, 0])),)
        self.assertEqual(fault(op("1:10", B(3)), parts=parts), 21)

    def test_0_2(self):
        text = text_words(letters("hello there"))
        seen = do(op("0:2") + text + op("4:5", B(33)), steps=2)
        self.assertEqual((seen.said, seen.place), ("hello there!", BEGIN + 1 + len(text) + 3))

    def test_abbreviations_in_each(self):
        text = text_words([6, 1, 0])
        parts = ((950, text_words(letters("xyz"))), abbreviation_part(1, 0, 950), (FREE, text), (501, op("0:3") + text))
        parts += (thing_part(3, properties=FREE - 1), (FREE - 1, [1]))
        for code, steps, told in (
            (op("0:2") + text, 1, "axyz"), (op("1:7", W(FREE)), 1, "axyz"), (op("1:13", W(FREE // 2)), 1, "axyz"),
            (op("1:10", B(3)), 1, "axyz"), (op("4:0", W(250), to=16), 2, "axyz\n"),
        ):
            self.assertEqual(do(code, steps=steps, parts=parts).said, told)

    def test_0_2_at_the_storys_end(self):
        text = text_words(letters("end"))
        seen = do(op("0:2") + text, at=SIZE - 3)
        self.assertEqual((seen.number, seen.said, seen.place), (1, "end", SIZE))
        self.assertEqual(fault(op("0:2") + text[:1], at=SIZE - 2), 17)
        self.assertEqual(fault(op("0:2"), at=SIZE - 1), 17)
        self.assertEqual(fault(op("0:2") + [0, 0], at=SIZE - 3), 17)

    def test_0_3(self):
        routine = [0] + op("4:8", B(2)) + op("0:3") + text_words(letters("bye"))
        code = op("4:0", W(250), to=16)
        seen = do(code, steps=3, parts=((500, routine),))
        self.assertEqual((seen.said, seen.place, seen.words, seen.depth), ("bye\n", BEGIN + len(code), 0, 0))
        self.assertEqual(seen.variable(16), 1)

    def test_0_3_of_256_bytes(self):
        routine = [0] + op("0:3") + text_words([6] * 256)
        seen = do(op("4:0", W(250), to=16), steps=2, parts=((500, routine),))
        self.assertEqual((seen.number, len(seen.said)), (1, 257))
        routine = [0] + op("0:3") + text_words([6] * 257)
        self.assertEqual(fault(op("4:0", W(250), to=16), 1, parts=((500, routine),)), 21)

    def test_faults_of_0_3(self):
        self.assertEqual(fault(op("0:3") + text_words(letters("bye"))), 18)
        self.assertEqual(fault(op("0:3"), at=SIZE - 1), 17)
        # The text goes before the return.
        bad = ((950, text_words([1, 0, 0])), abbreviation_part(1, 0, 950))
        self.assertEqual(fault(op("0:3") + text_words([1, 0]), parts=bad), 21)
        self.assertEqual(fault(op("0:2") + text_words([1, 0]), parts=bad), 21)

    def test_0_11(self):
        self.assertEqual(do(op("0:11")).said, "\n")

    def test_4_5(self):
        for letter, told in (
            (65, "A"), (32, " "), (126, "~"), (13, "\n"), (0, ""), (10, "?"), (31, "?"), (127, "?"), (256 + 65, "?"),
            (65535, "?"),
        ):
            self.assertEqual(do(op("4:5", W(letter))).said, told, letter)

    def test_4_6(self):
        for number, told in (
            (0, "0"), (7, "7"), (10, "10"), (32767, "32767"), (32768, "-32768"), (65535, "-1"), (65436, "-100"),
        ):
            self.assertEqual(do(op("4:6", W(number))).said, told)
        self.assertEqual(do(op("4:8", W(300)) + op("4:6", V(0)), steps=2).said, "300")

    def test_texts_stand_one_behind_another(self):
        code = op("0:2") + text_words(letters("one ")) + op("4:6", B(2)) + op("0:11") + op("1:7", W(FREE))
        self.assertEqual(do(code, steps=4, parts=((FREE, text_words(letters("three"))),)).said, "one 2\nthree")

    def test_nothing_of_a_text_with_a_fault_is_said(self):
        story = new_story(op("4:5", B(65)) + op("1:7", W(FREE)), head={24: SIZE - 2})
        put(story, FREE, text_words(letters("abc ") + [3, 3]))
        self.assertEqual(fault_of(story, 1), 17)


if __name__ == "__main__":
    unittest.main()
