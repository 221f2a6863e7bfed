"""The form of instructions: the first byte, operands, variables, branches, and the order of faults."""

import unittest

from tests.helper import (
    BEGIN, FREE, SIZE, VARIABLES, B, V, W, do, fault_of, load, new_story, op, run, tell, text_words, thing_part, two_bytes,
    variable_part,
)

NAMED = {
    0: list(range(14)),
    1: [number for number in range(16) if number != 8],
    2: list(range(1, 25)),
    4: list(range(12)) + [20, 21],
}


def fault(code, steps=0, **story):
    return fault_of(new_story(code, **story), steps)


class FirstByte(unittest.TestCase):
    def test_two_operands_below_128(self):
        # 2:20 with a byte or a variable (16 holds 100, 17 holds 1000) on either side.
        parts = (variable_part(16, 100), variable_part(17, 1000))
        for first, second, third, value in ((20, 16, 17, 33), (84, 16, 17, 117), (52, 16, 17, 1016), (116, 16, 17, 1100)):
            seen = do([first, second, third, 18], parts=parts)
            self.assertEqual((seen.number, seen.place, seen.variable(18)), (1, BEGIN + 4, value))

        # The lowest bit is the operation's alone: 2:21.
        for first, value in ((21, 65535), (85, 83), (53, 65552 - 1000), (117, 65536 - 900)):
            self.assertEqual(do([first, 16, 17, 18], parts=parts).variable(18), value % 65536)

    def test_one_operand_from_128_on(self):
        parts = (variable_part(16, 1000),)
        for code, value in (([143, 1, 2, 18], 65535 - 258), ([159, 16, 18], 65535 - 16), ([175, 16, 18], 65535 - 1000)):
            seen = do(code, parts=parts)
            self.assertEqual((seen.number, seen.place, seen.variable(18)), (1, BEGIN + len(code), value))

    def test_no_operand_from_176_on(self):
        seen = do([187])
        self.assertEqual((seen.number, seen.said, seen.place), (1, "\n", BEGIN + 1))

    def test_a_byte_that_tells_operands_from_192_on(self):
        parts = (variable_part(16, 7),)
        # The kinds up to the first 3: what stands behind it tells nothing.
        code = [192 + 20, 0b00_10_11_00, 1, 0, 16, 18]
        seen = do(code, parts=parts)
        self.assertEqual((seen.place, seen.variable(18)), (BEGIN + 6, 263))
        seen = do([192 + 32 + 8, 0b01_11_00_00, 5])
        self.assertEqual((seen.place, seen.words), (BEGIN + 3, 1))

    def test_every_byte_that_tells_operands(self):
        for second in range(256):
            length = 2
            for shift in (6, 4, 2, 0):
                kind = second >> shift & 3
                if kind == 3:
                    break
                length += 2 if kind == 0 else 1
            seen = do([224 + 20, second] + [16] * 8)
            self.assertEqual((seen.number, seen.place), (1, BEGIN + length), second)

    def test_bit_5_tells_the_group(self):
        self.assertEqual(do([192 + 8, 0b01_01_11_11, 5, 6, 18]).variable(18), 7)
        self.assertEqual(do([224 + 8, 0b01_01_11_11, 5, 6, 18]).number, 16)

    def test_operations_not_named(self):
        for first in range(128):
            number = first % 32
            if number not in NAMED[2]:
                self.assertEqual(fault([first, 1, 1, 1, 1]), 16, first)
        for kind in range(3):
            self.assertEqual(fault([128 + 16 * kind + 8, 1, 1]), 16)
        for first in (176 + 14, 176 + 15):
            self.assertEqual(fault([first]), 16)
        for number in range(32):
            if number not in NAMED[2]:
                self.assertEqual(fault([192 + number, 0b01_01_11_11, 1, 1]), 16, number)
            if number not in NAMED[4]:
                for second in (255, 0b01_11_11_11, 0b01_01_11_11, 0b01_01_01_11, 0b01_01_01_01):
                    self.assertEqual(fault([224 + number, second, 1, 1, 1, 1]), 16, number)

    def test_numbers_of_operands(self):
        allowed = {(2, number): (2,) for number in NAMED[2]}
        allowed[(2, 1)] = (2, 3, 4)
        allowed.update({(4, 0): (1, 2, 3, 4), (4, 1): (3,), (4, 2): (3,), (4, 3): (3,), (4, 4): (2,)})
        allowed.update({(4, number): (1,) for number in (5, 6, 7, 8, 9)})
        allowed.update({(4, number): (0, 1, 2, 3, 4) for number in (10, 11, 20, 21)})
        for (group, number), counts in allowed.items():
            for count in range(5):
                code = op(f"{group}:{number}", *[B(1)] * count) + [16, 66, 66]
                with self.subTest(group=group, number=number, count=count):
                    if count in counts:
                        self.assertNotEqual(do(code).number, 16)
                    else:
                        self.assertEqual(fault(code), 16)

    def test_the_operations_named_are_known(self):
        for number in NAMED[0]:
            self.assertNotEqual(do([176 + number, 66, 66]).number, 16, number)
        for number in NAMED[1]:
            self.assertNotEqual(do([144 + number, 1, 66, 66]).number, 16, number)
        for number in NAMED[2]:
            self.assertNotEqual(do([number, 1, 1, 66, 66]).number, 16, number)


class Operands(unittest.TestCase):
    def test_variables_are_read_from_the_left(self):
        code = op("4:8", B(9)) + op("4:8", B(4)) + op("2:21", V(0), V(0), to=16)
        seen = do(code, steps=3)
        self.assertEqual((seen.variable(16), seen.words), ((4 - 9) % 65536, 0))

    def test_read_even_where_nothing_is_done(self):
        for name in ("4:10", "4:11", "4:20", "4:21"):
            seen = do(op("4:8", B(9)) * 3 + op(name, V(0), B(1), V(0)), steps=4)
            self.assertEqual((seen.number, seen.words), (1, 1))
            self.assertEqual(fault(op(name, V(0))), 18)

    def test_own_variables(self):
        # The routine at 500 has two: 5 and 6; it's given one.
        routine = [2] + two_bytes(5) + two_bytes(6) + op("2:20", V(1), V(2), to=16) + op("2:20", V(1), V(3), to=16)
        story = new_story(op("4:0", W(250), B(100), to=20), parts=((500, routine),))
        told = tell(load(story), run(2), [4, VARIABLES], [4, VARIABLES + 1])
        self.assertEqual([answer[0] for answer in told[1:]], [1, 0, 106])
        self.assertEqual(fault_of(story, 2), 18)

    def test_no_own_variables_at_the_beginning(self):
        for number in (1, 15):
            self.assertEqual(fault(op("4:8", V(number))), 18)
            self.assertEqual(fault(op("2:20", B(1), B(1), to=number)), 18)
            self.assertEqual(fault(op("2:13", B(number), B(1))), 18)
            self.assertEqual(fault(op("1:14", B(number), to=16)), 18)

    def test_variables_16_to_255(self):
        variables = SIZE - 480
        last = SIZE - 2
        code = op("2:13", B(255), W(0xABCD)) + op("2:20", V(255), B(1), to=16)
        seen = do(code, steps=2, head={12: variables})
        self.assertEqual((seen.word(last), seen.word(variables)), (0xABCD, 0xABCE))
        self.assertEqual(fault(op("4:8", V(255)), head={12: variables + 1}), 17)
        self.assertEqual(fault(op("2:13", B(255), B(0)), head={12: variables + 1}), 17)

    def test_variables_are_not_written_at_low_or_behind(self):
        for low, number in ((VARIABLES + 4, 1), (VARIABLES + 3, 17), (VARIABLES + 2, 17), (VARIABLES, 17)):
            self.assertEqual(do(op("2:20", B(1), B(1), to=17), low=low).number, number, low)
        self.assertEqual(fault(op("2:20", B(1), B(1), to=17), low=VARIABLES + 3), 17)
        self.assertEqual(fault(op("2:13", B(17), B(1)), low=VARIABLES + 3), 17)
        self.assertEqual(do(op("2:20", V(17), B(1), to=16), low=VARIABLES + 2).number, 1)

    def test_a_variables_number_above_255(self):
        for code in (
            op("2:4", W(256), B(1), go=(True, 2)), op("2:5", W(256), B(1), go=(True, 2)), op("2:13", W(256), B(1)),
            op("1:5", W(256)), op("1:6", W(256)), op("1:14", W(256), to=16), op("4:9", W(256)), op("1:5", W(65535)),
        ):
            self.assertEqual(fault(code), 16, code)

    def test_a_variables_number_out_of_a_variable(self):
        parts = (variable_part(16, 17), variable_part(17, 500))
        seen = do(op("1:5", V(16)), parts=parts)
        self.assertEqual((seen.variable(16), seen.variable(17)), (17, 501))
        seen = do(op("4:8", B(17)) + op("2:13", V(0), B(3)), steps=2, parts=parts)
        self.assertEqual((seen.variable(17), seen.words), (3, 0))


class Stack(unittest.TestCase):
    def test_64_words(self):
        pushes = op("4:8", B(1)) * 64
        seen = do(pushes + op("0:11"), steps=65)
        self.assertEqual((seen.number, seen.words), (1, 64))
        story = new_story(pushes + op("4:8", B(1)), at=600)
        self.assertEqual(fault_of(story, 64), 18)
        story = new_story(pushes + op("2:20", B(1), B(1), to=0), at=600)
        self.assertEqual(fault_of(story, 64), 18)
        # What is taken for the operands leaves room for what's put.
        seen = do(pushes + op("2:20", V(0), B(1), to=0), steps=65, at=600)
        self.assertEqual((seen.number, seen.words), (1, 64))

    def test_a_word_that_is_not_there(self):
        for code in (
            op("4:8", V(0)), op("0:9"), op("4:9", B(16)), op("1:14", B(0), to=16), op("1:5", B(0)), op("1:6", B(0)),
            op("2:13", B(0), B(1)), op("2:4", B(0), B(1), go=(True, 2)), op("2:5", B(0), B(1), go=(True, 2)),
        ):
            self.assertEqual(fault(code), 18, code)

    def test_a_call_can_not_take_its_callers_words(self):
        for code in (op("0:9"), op("4:8", V(0)), op("4:9", B(16)), op("0:8"), op("1:14", B(0), to=16), op("2:13", B(0), B(1))):
            story = new_story(op("4:8", B(7)) + op("4:0", W(250), to=0), parts=((500, [0] + code),))
            self.assertEqual(fault_of(story, 2), 18, code)

    def test_nor_can_a_call_in_a_call(self):
        outer = [0] + op("4:8", B(7)) + op("4:0", W(260), to=0)
        for code in (op("0:9"), op("4:8", V(0)), op("2:13", B(0), B(1))):
            story = new_story(op("4:0", W(250), to=0), parts=((500, outer), (520, [0] + code)))
            self.assertEqual(fault_of(story, 3), 18, code)

    def test_a_call_takes_its_own_words(self):
        routine = [0] + op("4:8", B(3)) + op("4:9", B(16)) + op("4:8", B(4)) + op("0:8")
        seen = do(op("4:8", B(7)) + op("4:0", W(250), to=17), steps=6, parts=((500, routine),))
        self.assertEqual((seen.number, seen.words, seen.depth), (1, 1, 0))
        self.assertEqual((seen.variable(16), seen.variable(17)), (3, 4))

    def test_variable_0_in_its_place(self):
        start = op("4:8", B(3)) + op("4:8", B(8))
        seen = do(start + op("1:14", B(0), to=16), steps=3)
        self.assertEqual((seen.variable(16), seen.words), (8, 2))
        seen = do(start + op("2:13", B(0), B(50)) + op("4:9", B(16)) + op("4:9", B(17)), steps=5)
        self.assertEqual((seen.variable(16), seen.variable(17), seen.words), (50, 3, 0))
        seen = do(start + op("1:5", B(0)) + op("4:9", B(16)), steps=4)
        self.assertEqual((seen.variable(16), seen.words), (9, 1))
        seen = do(start + op("1:14", B(0), to=0), steps=3)
        self.assertEqual(seen.words, 3)


class Branches(unittest.TestCase):
    def place(self, value, way, distance, long=False):
        seen = do(op("1:0", B(value), go=(way, distance, long)))
        self.assertEqual(seen.number, 1)
        return seen.place

    def test_which_way(self):
        short = BEGIN + 3
        self.assertEqual(self.place(0, True, 10), short + 8)
        self.assertEqual(self.place(1, True, 10), short)
        self.assertEqual(self.place(0, False, 10), short)
        self.assertEqual(self.place(1, False, 10), short + 8)

    def test_distances(self):
        for distance in (2, 3, 62, 63):
            self.assertEqual(self.place(0, True, distance), BEGIN + 3 + distance - 2)
            self.assertEqual(self.place(1, False, distance), BEGIN + 3 + distance - 2)
        for distance in (2, 63, 64, 255, 256, 8191, -1, -2, -100, 2 - BEGIN - 4):
            self.assertEqual(self.place(0, True, distance, True), BEGIN + 4 + distance - 2)
            self.assertEqual(self.place(1, True, distance, True), BEGIN + 4)

    def test_bytes_of_a_long_branch(self):
        # 14 bits with a sign: 63, 255 is -1.
        self.assertEqual(do([0x90, 0, 0x80 + 63, 255]).place, BEGIN + 4 - 1 - 2)
        self.assertEqual(do([0x90, 0, 0x80 + 31, 255]).place, BEGIN + 4 + 8191 - 2)
        self.assertEqual(fault([0x90, 0, 0x80 + 32, 0]), 17)

    def test_a_place_below_0(self):
        just_there = 2 - BEGIN - 4
        self.assertEqual(self.place(0, True, just_there, True), 0)
        self.assertEqual(fault(op("1:0", B(0), go=(True, just_there - 1))), 17)
        self.assertEqual(do(op("1:0", B(1), go=(True, just_there - 1))).number, 1)

    def test_a_place_beyond_the_end_is_the_next_instructions_fault(self):
        story = new_story(op("1:0", B(0), go=(True, 8000)))
        told = tell(load(story), run(5), [3])
        self.assertEqual(told[1:], [(17, [], [1]), (0, [], [BEGIN + 4 + 7998, 0, 0])])
        story = new_story(op("1:0", B(0), go=(True, SIZE - BEGIN - 4 + 2)))
        told = tell(load(story), run(5), [3])
        self.assertEqual(told[1:], [(17, [], [1]), (0, [], [SIZE, 0, 0])])

    def test_distances_0_and_1_return(self):
        for long in (False, True):
            for distance in (0, 1):
                routine = [0] + op("4:8", B(1)) + op("1:0", B(0), go=(True, distance, long))
                code = op("4:0", W(250), to=16)
                seen = do(code, steps=3, parts=((500, routine), variable_part(16, 77)))
                self.assertEqual((seen.number, seen.place, seen.words, seen.depth), (1, BEGIN + len(code), 0, 0))
                self.assertEqual(seen.variable(16), distance)
                self.assertEqual(fault(op("1:0", B(0), go=(True, distance, long))), 18)
                self.assertEqual(do(op("1:0", B(1), go=(True, distance, long))).number, 1)

    def test_not_gone_1_does_not_return(self):
        routine = [0] + op("1:0", B(5), go=(True, 1))
        seen = do(op("4:0", W(250), to=16), steps=2, parts=((500, routine),))
        self.assertEqual((seen.place, seen.depth), (504, 1))


class OrderOfFaults(unittest.TestCase):
    def at_end(self, code, **story):
        """The fault of an instruction whose last byte is the story's last."""
        return fault(code, at=SIZE - len(code), **story)

    def test_the_first_byte(self):
        story = new_story(op("0:4"), at=SIZE - 1)
        self.assertEqual(fault_of(story, 1), 17)

    def test_the_byte_that_tells_operands_goes_before_the_operation(self):
        for first in (255, 224 + 13, 192, 192 + 31, 224 + 4, 224):
            self.assertEqual(self.at_end([first]), 17, first)

    def test_the_operation_goes_before_its_bytes(self):
        self.assertEqual(self.at_end([0]), 16)
        self.assertEqual(self.at_end([136]), 16)
        self.assertEqual(self.at_end([127]), 16)
        self.assertEqual(self.at_end([191]), 16)
        self.assertEqual(self.at_end([255, 0]), 16)
        self.assertEqual(self.at_end([192 + 20, 0b00_11_11_11]), 16)
        self.assertEqual(self.at_end([192 + 20, 0]), 16)

    def test_bytes_cut_off_by_the_end(self):
        whole = (
            op("2:20", W(1), W(2), to=16), op("2:1", B(1), B(2), B(3), B(4), go=(True, 100)), [20, 1, 2, 16],
            op("1:1", W(1), to=16, go=(True, 100)), op("4:1", W(1), W(1), W(1)), op("0:13", go=(True, 100)),
            op("4:0", W(1), W(1), W(1), W(1), to=0), op("1:12", W(2)), op("4:20", W(1), W(1), W(1), W(1)),
            op("0:5", go=(True, 100)), op("0:6", go=(True, 3)),
        )
        for code in whole:
            for length in range(1, len(code)):
                self.assertEqual(self.at_end(code[:length]), 17, (code, length))

    def test_no_byte_more_is_read(self):
        # Each operation just at the story's end: (its form, what a run of one answers).
        text = text_words([6, 7, 8])
        parts = (thing_part(1, properties=FREE), (FREE, [0, 33, 1, 2, 0]))
        go = (True, 2)
        ends = [(op(f"0:{number}"), 18) for number in (0, 1, 8, 9)]
        ends += [(op(f"0:{number}"), 1) for number in (4, 7, 11, 12)] + [(op("0:10"), 0)]
        ends += [(op("0:2") + text, 1), (op("0:3") + text, 18)]
        ends += [(op(f"0:{number}", go=go), 1) for number in (5, 6, 13)]
        ends += [(op(f"1:{number}", B(16)), 1) for number in (5, 6)] + [(op("1:12", W(2)), 1), (op("1:11", B(1)), 18)]
        ends += [(op(f"1:{number}", B(1), to=16), 1) for number in (3, 4, 15)] + [(op("1:14", B(16), to=16), 1)]
        ends += [(op(f"1:{number}", B(1), to=16, go=go), 1) for number in (1, 2)] + [(op("1:0", B(1), go=go), 1)]
        ends += [(op("1:7", W(950)), 1), (op("1:13", W(475)), 1), (op("1:9", B(1)), 1), (op("1:10", B(1)), 1)]
        ends += [(op(f"2:{number}", B(16), B(1), go=go), 1) for number in (1, 2, 3, 4, 5, 7)]
        ends += [(op(f"2:{number}", B(1), B(1), go=go), 1) for number in (6, 10)]
        ends += [(op(f"2:{number}", B(1), B(1)), 1) for number in (11, 12, 14)] + [(op("2:13", B(16), B(1)), 1)]
        ends += [(op(f"2:{number}", B(1), B(1), to=16), 1) for number in (8, 9, 15, 16, 17, 18, 19, 20, 21, 22, 23, 24)]
        ends += [(op("4:0", W(250), to=16), 1), (op("4:9", B(16)), 18), (op("4:7", B(3), to=16), 1)]
        ends += [(op(f"4:{number}", B(1), B(1), B(1)), 1) for number in (1, 2, 3)] + [(op("4:4", B(1), B(1)), 2)]
        ends += [(op(f"4:{number}", B(1)), 1) for number in (5, 6, 8, 10, 11, 20, 21)]
        self.assertEqual(len(ends), sum(len(numbers) for numbers in NAMED.values()))
        for code, number in ends:
            story = new_story(code, at=SIZE - len(code), parts=parts + ((950, text),))
            self.assertEqual(tell(load(story), run(1))[1][0], number, code)

    def test_its_bytes_go_before_the_variables(self):
        code = op("2:20", V(0), V(1), to=16)
        self.assertEqual(self.at_end(code), 18)
        self.assertEqual(self.at_end(code[:-1]), 17)
        self.assertEqual(self.at_end(op("2:1", V(0), B(1), go=(True, 100))[:-1]), 17)

    def test_variables_go_from_the_left(self):
        head = {12: SIZE - 2}  # variable 17 is beyond the end
        self.assertEqual(fault(op("2:20", V(17), V(0), to=0), head=head), 17)
        self.assertEqual(fault(op("2:20", V(0), V(17), to=0), head=head), 18)

    def test_variables_go_before_what_the_table_tells(self):
        self.assertEqual(fault(op("2:13", W(300), V(0))), 18)
        self.assertEqual(fault(op("2:23", B(1), V(0), to=0)), 18)
        self.assertEqual(fault(op("1:10", V(0))), 18)
        self.assertEqual(fault(op("4:3", B(0), B(0), V(3))), 18)

    def test_what_the_table_tells_goes_before_the_arrow(self):
        self.assertEqual(fault(op("2:23", B(1), B(0), to=1)), 20)
        self.assertEqual(fault(op("2:17", B(0), B(1), to=1)), 19)
        self.assertEqual(fault(op("2:15", W(65535), W(65535), to=1)), 17)
        self.assertEqual(fault(op("1:14", W(256), to=1)), 16)

    def test_the_arrow_goes_before_the_branch(self):
        code = op("1:1", B(1), to=16, go=(False, -8000))
        self.assertEqual(fault(code), 17)
        self.assertEqual(fault(op("1:1", B(1), to=1, go=(False, -8000))), 18)
        self.assertEqual(fault(op("1:1", B(1), to=255, go=(False, 0)), head={12: SIZE - 10}), 17)
        self.assertEqual(fault(op("1:1", B(1), to=16, go=(False, 0))), 18)

    def test_what_the_table_does_goes_before_the_branch(self):
        self.assertEqual(fault(op("2:4", B(255), B(1), go=(True, 0)), head={12: SIZE - 10}), 17)
        self.assertEqual(fault(op("2:4", W(256), B(1), go=(True, 0))), 16)

    def test_a_fault_of_the_branch_leaves_what_was_done_before_it_undone(self):
        # The variable, the stack and what's written by -> are as they were (fault_of compares all).
        self.assertEqual(fault(op("2:4", B(16), B(1), go=(True, 0))), 18)
        self.assertEqual(fault(op("4:8", B(5)) + op("2:5", B(0), V(16), go=(True, 1)), 1), 18)
        self.assertEqual(fault(op("4:8", B(1)) + op("1:1", V(0), to=0, go=(False, -8000)), 1), 17)


if __name__ == "__main__":
    unittest.main()
