"""The table of operations but those on things, text and lines."""

import unittest

from tests.helper import (
    BEGIN, FREE, SIZE, VARIABLES, B, Seen, V, W, do, fault_of, load, new_story, op, put, run, tell, two_bytes,
    variable_part,
)


def fault(code, steps=0, seed=0, **story):
    return fault_of(new_story(code, **story), steps, seed)


def words(*values):
    return [W(value % 65536) for value in values]


class Asking(unittest.TestCase):
    def holds(self, name, *values, **story):
        code = op(name, *words(*values), go=(True, 40))
        seen = do(code, **story)
        self.assertEqual(seen.number, 1)
        self.assertIn(seen.place, (BEGIN + len(code), BEGIN + len(code) + 38))
        return seen.place == BEGIN + len(code) + 38

    def test_2_1(self):
        self.assertTrue(self.holds("2:1", 5, 5))
        self.assertFalse(self.holds("2:1", 5, 6))
        self.assertTrue(self.holds("2:1", 5, 6, 5))
        self.assertTrue(self.holds("2:1", 5, 6, 7, 5))
        self.assertTrue(self.holds("2:1", 65535, 1, -1, 5))
        self.assertFalse(self.holds("2:1", 5, 6, 7, 8))
        self.assertFalse(self.holds("2:1", 5, 6, 6, 6))

    def test_2_2_and_2_3(self):
        for a, b in ((1, 2), (2, 1), (1, 1), (-1, 0), (0, -1), (-32768, 32767), (32767, -32768), (-5, -4), (32767, 32768)):
            low = a if a < 32768 else a - 65536
            high = b if b < 32768 else b - 65536
            self.assertEqual(self.holds("2:2", a, b), low < high, (a, b))
            self.assertEqual(self.holds("2:3", a, b), low > high, (a, b))

    def test_2_7(self):
        self.assertTrue(self.holds("2:7", 0b1110, 0b0110))
        self.assertFalse(self.holds("2:7", 0b0110, 0b1110))
        self.assertTrue(self.holds("2:7", 0, 0))
        self.assertTrue(self.holds("2:7", 5, 0))
        self.assertTrue(self.holds("2:7", 65535, 32768))
        self.assertFalse(self.holds("2:7", 32767, 32768))

    def test_1_0(self):
        self.assertTrue(self.holds("1:0", 0))
        self.assertFalse(self.holds("1:0", 1))
        self.assertFalse(self.holds("1:0", 65535))

    def test_2_4(self):
        for before, after, b, holds in (
            (5, 4, 5, True), (5, 4, 4, False), (0, 65535, 0, True), (0, 65535, -1, False), (32768, 32767, 0, False),
            (-5, -6, -5, True),
        ):
            parts = (variable_part(16, before % 65536),)
            self.assertEqual(self.holds("2:4", 16, b, parts=parts), holds, (before, b))
            self.assertEqual(do(op("2:4", *words(16, b), go=(True, 40)), parts=parts).variable(16), after % 65536)

    def test_2_5(self):
        for before, after, b, holds in (
            (5, 6, 5, True), (5, 6, 6, False), (-1, 0, -1, True), (-1, 0, 0, False), (32767, 32768, 0, False),
            (65535, 0, 65534, True),
        ):
            parts = (variable_part(16, before % 65536),)
            self.assertEqual(self.holds("2:5", 16, b, parts=parts), holds, (before, b))
            self.assertEqual(do(op("2:5", *words(16, b), go=(True, 40)), parts=parts).variable(16), after % 65536)

    def test_2_4_and_2_5_with_the_stack(self):
        for name, after in (("2:4", 6), ("2:5", 8)):
            seen = do(op("4:8", B(7)) + op(name, B(0), B(7), go=(True, 2)) + op("4:9", B(16)), steps=3)
            self.assertEqual((seen.variable(16), seen.words), (after, 0))

    def test_faults_of_2_4_and_2_5(self):
        for name in ("2:4", "2:5"):
            self.assertEqual(fault(op(name, B(17), B(1), go=(True, 2)), low=VARIABLES + 3), 17)
            self.assertEqual(fault(op(name, B(17), B(1), go=(True, 2)), head={12: SIZE - 2}), 17)
            self.assertEqual(fault(op(name, B(2), B(1), go=(True, 2))), 18)
            self.assertEqual(fault(op(name, B(0), B(1), go=(True, 2))), 18)
            self.assertEqual(fault(op(name, W(256), B(1), go=(True, 2))), 16)
            self.assertEqual(fault(op(name, B(16), B(1), go=(name == "2:4", -4000))), 17)
            self.assertEqual(fault(op(name, B(16), B(1), go=(name == "2:4", 1))), 18)


class Sums(unittest.TestCase):
    def value(self, name, *values):
        code = op(name, *words(*values), to=16)
        seen = do(code)
        self.assertEqual((seen.number, seen.place), (1, BEGIN + len(code)))
        return seen.variable(16)

    def test_bits(self):
        self.assertEqual(self.value("2:8", 0xF0F0, 0x0FF0), 0xFFF0)
        self.assertEqual(self.value("2:9", 0xF0F0, 0x0FF0), 0x00F0)
        self.assertEqual(self.value("1:15", 0xF0F1), 0x0F0E)
        self.assertEqual(self.value("1:15", 0), 65535)

    def test_sum_difference_product(self):
        for a, b in ((3, 4), (65535, 1), (0, 0), (-3, 2), (32767, 32767), (-32768, -32768), (300, 300), (-300, 300)):
            self.assertEqual(self.value("2:20", a, b), (a + b) % 65536, (a, b))
            self.assertEqual(self.value("2:21", a, b), (a - b) % 65536, (a, b))
            self.assertEqual(self.value("2:22", a, b), (a * b) % 65536, (a, b))

    def test_quotient_and_rest(self):
        for a, b, quotient, rest in (
            (7, 2, 3, 1), (-7, 2, -3, -1), (7, -2, -3, 1), (-7, -2, 3, -1), (6, 3, 2, 0), (-6, 3, -2, 0), (0, 5, 0, 0),
            (0, -5, 0, 0), (-1, 1, -1, 0), (1, -1, -1, 0), (1, 2, 0, 1), (-1, 2, 0, -1), (-32768, -1, 32768, 0), (-32768, 1, -32768, 0),
            (32767, -32768, 0, 32767), (-32768, 32767, -1, -1),
        ):
            self.assertEqual(self.value("2:23", a, b), quotient % 65536, (a, b))
            self.assertEqual(self.value("2:24", a, b), rest % 65536, (a, b))

    def test_by_0(self):
        self.assertEqual(fault(op("2:23", B(5), B(0), to=16)), 20)
        self.assertEqual(fault(op("2:24", B(5), B(0), to=16)), 20)
        self.assertEqual(fault(op("4:8", B(0)) + op("2:24", B(0), V(0), to=16), 1), 20)

    def test_faults_of_the_arrow(self):
        for name in ("2:8", "2:9", "2:20", "2:21", "2:22", "2:23", "2:24"):
            self.assertEqual(fault(op(name, B(9), B(1), to=3)), 18)
            self.assertEqual(fault(op(name, B(9), B(1), to=255), low=500), 17)
        self.assertEqual(fault(op("1:15", B(9), to=3)), 18)
        self.assertEqual(fault(op("1:15", B(9), to=255), low=500), 17)


class Variables(unittest.TestCase):
    def test_2_13(self):
        seen = do(op("2:13", B(20), W(0x1234)))
        self.assertEqual((seen.number, seen.variable(20), seen.words), (1, 0x1234, 0))

    def test_1_5_and_1_6(self):
        for name, before, after in (("1:5", 9, 10), ("1:5", 65535, 0), ("1:6", 9, 8), ("1:6", 0, 65535)):
            seen = do(op(name, B(16)), parts=(variable_part(16, before),))
            self.assertEqual((seen.variable(16), seen.place), (after, BEGIN + 2))
        for name in ("1:5", "1:6"):
            self.assertEqual(fault(op(name, B(17)), low=VARIABLES + 3), 17)
            self.assertEqual(fault(op(name, B(1))), 18)

    def test_1_14(self):
        seen = do(op("1:14", B(17), to=16), parts=(variable_part(17, 999),))
        self.assertEqual((seen.variable(16), seen.variable(17)), (999, 999))
        self.assertEqual(fault(op("1:14", B(17), to=16), head={12: SIZE - 2}), 17)

    def test_in_an_own_variable(self):
        routine = [1, 0, 5] + op("1:5", B(1)) + op("2:13", B(17), V(1)) + op("2:13", B(1), B(40)) + op("1:11", V(1))
        seen = do(op("4:0", W(250), to=16), steps=5, parts=((500, routine),))
        self.assertEqual((seen.variable(16), seen.variable(17)), (40, 6))
        # The second of three alone is written.
        routine = [3, 0, 1, 0, 2, 0, 4] + op("2:20", B(40), B(2), to=2) + op("2:20", V(1), V(3), to=17) + op("1:11", V(2))
        seen = do(op("4:0", W(250), to=16), steps=4, parts=((500, routine),))
        self.assertEqual((seen.variable(16), seen.variable(17)), (42, 5))


class Memory(unittest.TestCase):
    def test_2_15(self):
        parts = ((901, [1, 2, 3, 4]), (SIZE - 2, [7, 8]))
        self.assertEqual(do(op("2:15", W(901), B(1), to=16), parts=parts).variable(16), 0x0304)
        self.assertEqual(do(op("2:15", W(SIZE - 4), B(1), to=16), parts=parts).variable(16), 0x0708)
        self.assertEqual(fault(op("2:15", W(SIZE - 1), B(0), to=16)), 17)
        self.assertEqual(fault(op("2:15", W(SIZE), B(0), to=16)), 17)
        self.assertEqual(fault(op("2:15", W(65535), W(65535), to=16)), 17)

    def test_places_do_not_wrap(self):
        # 65,000 + 2 * 1,000 would be 464 with wrapping; 2 + 65,535 would be 1.
        self.assertEqual(fault(op("2:15", W(65000), W(1000), to=16)), 17)
        self.assertEqual(fault(op("2:16", W(2), W(65535), to=16)), 17)
        self.assertEqual(fault(op("4:1", W(65000), W(1000), B(1))), 17)
        self.assertEqual(fault(op("4:2", W(2), W(65535), B(1))), 17)

    def test_2_16(self):
        parts = ((901, [1, 2]), (SIZE - 1, [9]))
        self.assertEqual(do(op("2:16", W(901), B(1), to=16), parts=parts).variable(16), 2)
        self.assertEqual(do(op("2:16", W(SIZE - 1), B(0), to=16), parts=parts).variable(16), 9)
        self.assertEqual(fault(op("2:16", W(SIZE - 1), B(1), to=16)), 17)

    def test_4_1(self):
        seen = do(op("4:1", W(901), B(2), W(0xABCD)))
        self.assertEqual((seen.number, seen.row(904, 4)), (1, [0, 0xAB, 0xCD, 0]))
        self.assertEqual(do(op("4:1", W(901), B(9), W(0xABCD))).word(919), 0xABCD)
        for low, number in ((907, 1), (906, 17), (905, 17)):
            self.assertEqual(do(op("4:1", W(901), B(2), W(0xABCD)), low=low).number, number)
        self.assertEqual(fault(op("4:1", W(901), B(2), W(0xABCD)), low=906), 17)
        self.assertEqual(fault(op("4:1", W(SIZE - 1), B(0), W(0xABCD))), 17)

    def test_4_2(self):
        seen = do(op("4:2", W(901), B(2), W(0xABCD)))
        self.assertEqual((seen.number, seen.row(902, 3)), (1, [0, 0xCD, 0]))
        self.assertEqual(do(op("4:2", W(901), B(2), B(1)), low=904).number, 1)
        self.assertEqual(fault(op("4:2", W(901), B(2), B(1)), low=903), 17)
        self.assertEqual(fault(op("4:2", W(SIZE), B(0), B(1))), 17)

    def test_low_at_64_and_at_the_end(self):
        self.assertEqual(do(op("4:2", B(63), B(0), B(1)), low=64).byte(63), 1)
        self.assertEqual(fault(op("4:2", B(64), B(0), B(1)), low=64), 17)
        self.assertEqual(fault(op("4:1", B(63), B(0), B(1)), low=64), 17)
        self.assertEqual(do(op("4:2", W(SIZE - 1), B(0), B(1)), low=SIZE).byte(SIZE - 1), 1)

    def test_a_story_may_write_over_its_own_instructions(self):
        # The second byte of the second instruction becomes 66 before it's read.
        code = op("4:2", W(BEGIN + 9), B(0), B(66)) + op("4:5", B(65))
        code[2:4] = two_bytes(BEGIN + len(code) - 1)
        self.assertEqual(do(code, steps=2).said, "B")


class StackOperations(unittest.TestCase):
    def test_4_8_and_4_9(self):
        seen = do(op("4:8", W(1000)) + op("4:8", W(2000)) + op("4:9", B(16)), steps=3)
        self.assertEqual((seen.variable(16), seen.words), (2000, 1))

    def test_4_9_onto_the_stack_itself(self):
        seen = do(op("4:8", B(1)) + op("4:8", B(2)) + op("4:9", B(0)) + op("4:9", B(16)), steps=4)
        self.assertEqual((seen.variable(16), seen.words), (2, 0))
        self.assertEqual(fault(op("4:8", B(1)) + op("4:9", B(0)), 1), 18)

    def test_faults_of_4_9(self):
        self.assertEqual(fault(op("4:9", W(256))), 16)
        self.assertEqual(fault(op("4:9", B(16))), 18)
        self.assertEqual(fault(op("4:9", B(16)), low=64), 18)
        self.assertEqual(fault(op("4:8", B(1)) + op("4:9", B(16)), 1, low=64), 17)
        self.assertEqual(fault(op("4:8", B(1)) + op("4:9", B(1)), 1), 18)

    def test_0_9(self):
        seen = do(op("4:8", B(1)) * 2 + op("0:9"), steps=3)
        self.assertEqual((seen.number, seen.words), (1, 1))
        self.assertEqual(fault(op("0:9")), 18)


class Calls(unittest.TestCase):
    def test_values_at_first_and_given_ones(self):
        routine = [3] + two_bytes(10) + two_bytes(200) + two_bytes(3000)
        add = op("2:20", V(1), V(2), to=0) + op("2:20", V(0), V(3), to=0) + op("0:8")
        for given, value in (((), 3210), ((1,), 3201), ((1, 2), 3003), ((1, 2, 3), 6)):
            code = op("4:0", W(250), *words(*given), to=16)
            seen = do(code, steps=4, parts=((500, routine + add),))
            self.assertEqual((seen.number, seen.variable(16), seen.place), (1, value, BEGIN + len(code)))
            self.assertEqual((seen.words, seen.depth), (0, 0))

    def test_further_operands_are_dropped(self):
        routine = [1, 0, 9] + op("1:11", V(1))
        self.assertEqual(do(op("4:0", W(250), B(5), B(6), B(7), to=16), steps=2, parts=((500, routine),)).variable(16), 5)
        routine = [0] + op("0:0")
        self.assertEqual(do(op("4:0", W(250), B(5), B(6), B(7), to=16), steps=2, parts=((500, routine),)).variable(16), 1)

    def test_routine_0(self):
        seen = do(op("4:8", B(3)) + op("4:0", B(0), V(0), to=16), steps=2, parts=(variable_part(16, 5),))
        self.assertEqual((seen.variable(16), seen.words, seen.depth), (0, 0, 0))
        self.assertEqual(fault(op("4:0", B(0), to=1)), 18)
        self.assertEqual(fault(op("4:0", B(0), to=16), low=64), 17)

    def test_15_own_variables_and_16(self):
        code = op("4:0", W(250), to=16)
        seen = do(code, parts=((500, [15]),))
        self.assertEqual((seen.number, seen.place, seen.depth), (1, 531, 1))
        self.assertEqual(fault(code, parts=((500, [16]),)), 16)
        self.assertEqual(fault(code, parts=((500, [255]),)), 16)

    def test_places_of_routines(self):
        last = SIZE - 2
        self.assertEqual(fault(op("4:0", W(SIZE // 2), to=16)), 17)
        self.assertEqual(fault(op("4:0", W(65535), to=16)), 17)
        self.assertEqual(fault(op("4:0", W(last // 2), to=16), parts=((last, [1]),)), 17)
        self.assertEqual(fault(op("4:0", W(last // 2), to=16), parts=((last, [16]),)), 16)
        seen = do(op("4:0", W(last // 2), to=16))
        self.assertEqual((seen.number, seen.place), (1, last + 1))
        # All the words are read, those that are replaced too.
        self.assertEqual(fault(op("4:0", W(last // 2), B(1), to=16), parts=((last, [1]),)), 17)

    def test_16_calls_in_one_another(self):
        routine = [0] + op("4:0", W(250), to=16)
        story = new_story(op("4:0", W(250), to=16), parts=((500, routine),))
        self.assertEqual(Seen(story, [run(16)]).depth, 16)
        self.assertEqual(fault_of(story, 16), 18)

    def test_the_17th_call_is_looked_at_last(self):
        # The routine at 500 calls itself till variable 21 is above 15, then the one at the story's end.
        again = op("4:0", W(250), to=16)
        routine = [0] + op("2:5", B(21), B(15), go=(True, 2 + len(again))) + again + op("4:0", W(SIZE // 2 - 1), to=16)
        for last, number in (([16], 16), ([1], 17), ([0], 18)):
            seen = do(again, steps=100, parts=((500, routine), (SIZE - 2, last)))
            self.assertEqual((seen.number, seen.depth, seen.variable(21)), (number, 16, 16))

    def test_the_callers_words_stay(self):
        routine = [0] + op("4:8", B(1)) * 3 + op("0:1")
        seen = do(op("4:8", B(9)) * 2 + op("4:0", W(250), to=16), steps=7, parts=((500, routine),))
        self.assertEqual((seen.words, seen.depth), (2, 0))

    def test_returns(self):
        for code, value in ((op("0:0"), 1), (op("0:1"), 0), (op("1:11", W(5000)), 5000), (op("4:8", B(8)) + op("0:8"), 8)):
            seen = do(op("4:0", W(250), to=0) + op("4:9", B(16)), steps=4 if len(code) > 3 else 3, parts=((500, [0] + code),))
            self.assertEqual((seen.number, seen.variable(16), seen.words, seen.depth), (1, value, 0, 0))

    def test_returns_where_there_is_no_call(self):
        for code in (op("0:0"), op("0:1"), op("1:11", B(1))):
            self.assertEqual(fault(code), 18)
        self.assertEqual(fault(op("0:8")), 18)
        self.assertEqual(fault(op("4:8", B(1)) + op("0:8"), 1), 18)

    def test_the_arrow_of_a_return(self):
        for code in (op("0:0"), op("1:0", B(0), go=(True, 1)), op("1:11", B(1))):
            parts = ((500, [0] + code),)
            self.assertEqual(fault(op("4:0", W(250), to=1), 1, parts=parts), 18)
            self.assertEqual(fault(op("4:0", W(250), to=16), 1, parts=parts, low=64), 17)
            self.assertEqual(fault(op("4:8", B(1)) * 64 + op("4:0", W(450), to=0), 65, parts=((900, [0] + code),)), 18)

    def test_returns_into_the_callers_own_variable(self):
        outer = [1, 0, 3] + op("4:0", W(260), to=1) + op("1:11", V(1))
        inner = [2, 0, 7, 0, 8] + op("1:11", V(2))
        seen = do(op("4:0", W(250), to=16), steps=4, parts=((500, outer), (520, inner)))
        self.assertEqual((seen.number, seen.variable(16)), (1, 8))

    def test_the_arrows_number_is_read_when_it_returns(self):
        code = op("4:0", W(250), to=16)
        routine = [0] + op("4:2", W(BEGIN + len(code) - 1), B(0), B(17)) + op("1:11", B(9))
        seen = do(code, steps=3, parts=((500, routine),))
        self.assertEqual((seen.variable(16), seen.variable(17)), (0, 9))


class Jumps(unittest.TestCase):
    def test_1_12(self):
        for distance in (2, 3, 100, 0, 1, -1, 32767, -(BEGIN + 1)):
            seen = do(op("1:12", W(distance % 65536)))
            self.assertEqual((seen.number, seen.place), (1, BEGIN + 3 + distance - 2), distance)

    def test_faults_of_1_12(self):
        self.assertEqual(fault(op("1:12", W((-(BEGIN + 2)) % 65536))), 17)
        self.assertEqual(fault(op("1:12", W(32768))), 17)
        told = tell(load(new_story(op("1:12", W(32767)))), run(3), [3])
        self.assertEqual(told[1:], [(17, [], [1]), (0, [], [BEGIN + 3 + 32765, 0, 0])])

    def test_distances_0_and_1_do_not_return(self):
        routine = [0] + op("1:12", W(0))
        seen = do(op("4:0", W(250), to=16), steps=2, parts=((500, routine),))
        self.assertEqual((seen.place, seen.depth), (502, 1))


class Keeping(unittest.TestCase):
    def test_back_to_what_was_kept(self):
        # Kept with one word on the stack and variable 16 at 5; then changed, drawn, and back.
        code = op("4:8", B(1)) + op("2:13", B(16), B(5)) + op("0:5", go=(True, 2))
        kept_at = BEGIN + len(code)
        code += op("4:7", W(1000), to=17) + op("2:13", B(16), B(6)) + op("4:8", B(2)) + op("0:6", go=(True, 30))
        story = new_story(code)
        before = Seen(story, [run(3)], 7)
        after = Seen(story, [run(7)], 7)
        self.assertEqual((after.number, after.place, after.words), (1, kept_at, 1))
        self.assertEqual(after.memory(), before.memory())
        # The seed is back too: the same is drawn again, and again after a second time.
        drawn = [Seen(story, [run(steps)], 7).variable(17) for steps in (4, 8, 12)]
        self.assertEqual(drawn, [drawn[0]] * 3)
        self.assertEqual(Seen(story, [run(11)], 7).memory(), before.memory())

    def test_kept_inside_a_call(self):
        routine = [1, 0, 4] + op("4:8", B(3)) + op("0:5", go=(True, 2)) + op("1:5", B(1)) + op("0:6", go=(True, 2))
        story = new_story(op("4:0", W(250), to=16), parts=((500, routine),))
        seen = Seen(story, [run(5)])
        self.assertEqual((seen.place, seen.words, seen.depth), (500 + 3 + 3 + 2, 1, 1))
        # The own variable is 4 again, so one more is 5 and not 6.
        put(story, 500 + 3 + 3 + 2, op("2:5", B(1), B(5), go=(True, 0)) + op("0:6", go=(True, 2)))
        self.assertEqual(Seen(story, [run(40)]).depth, 1)

    def test_back_from_deeper_and_from_shallower(self):
        routine = [0] + op("4:8", B(3)) + op("0:5", go=(False, 2)) + op("0:0")
        code = op("4:0", W(250), to=16) + op("0:6", go=(True, 2))
        seen = do(code, steps=5, parts=((500, routine),))
        self.assertEqual((seen.place, seen.words, seen.depth), (500 + 1 + 3 + 2, 1, 1))

    def test_what_is_kept_is_what_comes_of_the_branch(self):
        keep = op("0:5", go=(True, 20))
        code = keep + op("0:10")
        story = new_story(code)
        put(story, BEGIN + len(keep) + 18, op("0:6", go=(True, 2)))
        seen = Seen(story, [run(2)])
        self.assertEqual((seen.number, seen.place), (1, BEGIN + len(keep) + 18))
        # With the other way the branch isn't gone.
        self.assertEqual(do(op("0:5", go=(False, 20))).place, BEGIN + 2)

    def test_a_branch_that_returns(self):
        routine = [0] + op("0:5", go=(True, 1))
        code = op("4:0", W(250), to=16) + op("2:13", B(16), B(9)) + op("0:6", go=(True, 2))
        seen = do(code, steps=4, parts=((500, routine),))
        self.assertEqual((seen.place, seen.depth, seen.variable(16)), (BEGIN + 5, 0, 1))
        self.assertEqual(fault(op("0:5", go=(True, 1))), 18)

    def test_a_fault_keeps_nothing(self):
        self.assertEqual(fault(op("0:5", go=(True, 2)) + op("4:8", B(1)) + op("0:5", go=(True, 0)), 2), 18)
        self.assertEqual(fault(op("0:5", go=(True, 2)) + op("0:5", go=(True, -4000)), 1), 17)

    def test_in_place_of_one_kept_before(self):
        code = op("0:5", go=(True, 2)) + op("4:8", B(1)) + op("0:5", go=(True, 2)) + op("4:8", B(1)) + op("0:6", go=(True, 2))
        seen = do(code, steps=5)
        self.assertEqual((seen.place, seen.words), (BEGIN + 7, 1))

    def test_nothing_kept(self):
        self.assertEqual(do(op("0:6", go=(True, 20))).place, BEGIN + 2)
        self.assertEqual(do(op("0:6", go=(False, 20))).place, BEGIN + 20)
        self.assertEqual(fault(op("0:6", go=(False, 1))), 18)
        self.assertEqual(fault(op("0:6", go=(False, -4000))), 17)

    def test_0_7(self):
        code = op("2:13", B(16), B(6)) + op("4:8", B(1)) + op("4:7", B(100), to=17) + op("4:0", W(250), to=18)
        story = new_story(code, parts=((500, [0] + op("0:7")),))
        seen = Seen(story, [run(5)], 11)
        self.assertEqual((seen.number, seen.place, seen.words, seen.depth), (1, BEGIN, 0, 0))
        self.assertEqual(seen.memory(), story)
        drawn = [Seen(story, [run(steps)], 11).variable(17) for steps in (3, 8)]
        self.assertEqual(drawn[0], drawn[1])

    def test_0_7_leaves_what_is_kept(self):
        # The first byte of free room tells whether it's the first time round: kept, then begun again, then back.
        code = op("0:6", go=(True, 2)) + op("4:8", B(1)) + op("0:5", go=(True, 2)) + op("4:8", B(2)) + op("0:7")
        seen = do(code, steps=6)
        self.assertEqual((seen.number, seen.place, seen.words), (1, BEGIN + 2 + 3 + 2, 1))

    def test_0_7_and_the_seed_set_by_the_story(self):
        code = op("4:7", B(50), to=16) + op("4:7", W(65536 - 99), to=17) + op("0:7")
        story = new_story(code)
        first = Seen(story, [run(1)], 4).variable(16)
        self.assertEqual(Seen(story, [run(4)], 4).variable(16), first)


class Seeds(unittest.TestCase):
    def test_draws(self):
        seed = 12345
        code = op("4:7", W(1000), to=16) + op("4:7", W(32767), to=17) + op("4:7", B(1), to=18)
        seen = do(code, steps=3, seed=seed)
        values = []
        for most in (1000, 32767, 1):
            seed = (1664525 * seed + 1013904223) % 2 ** 32
            values.append(1 + (seed // 65536) % most)
        self.assertEqual([seen.variable(number) for number in (16, 17, 18)], values)

    def test_a_draw_of_the_seed_0(self):
        # 1,013,904,223 is 15,470 * 65,536 and a rest.
        self.assertEqual(do(op("4:7", W(32767), to=16)).variable(16), 15471)

    def test_a_seed_of_the_storys_own(self):
        for told in (-1, -5, -32768):
            code = op("4:7", W(told % 65536), to=16) + op("4:7", W(30000), to=17)
            seen = do(code, steps=2, seed=99, parts=(variable_part(16, 7),))
            drawn = 1 + ((1664525 * -told + 1013904223) % 2 ** 32 // 65536) % 30000
            self.assertEqual((seen.variable(16), seen.variable(17)), (0, drawn))

    def test_back_to_the_seed_of_load(self):
        code = op("4:7", W(30000), to=17) + op("4:7", B(0), to=16) + op("4:7", W(30000), to=18)
        seen = do(code, steps=3, seed=2 ** 40 + 99, parts=(variable_part(16, 7),))
        self.assertEqual(seen.variable(16), 0)
        self.assertEqual(seen.variable(17), seen.variable(18))

    def test_a_fault_leaves_the_seed(self):
        for a in (W(100), W(65535), B(0)):
            self.assertEqual(fault(op("4:7", a, to=1), seed=5), 18)
            self.assertEqual(fault(op("4:7", a, to=255), seed=5, low=64), 17)


class Rest(unittest.TestCase):
    def test_nothing(self):
        for code in (op("0:4"), op("0:12"), op("4:10"), op("4:11", B(1)), op("4:20", W(1), W(1), W(1), W(1)), op("4:21", B(1))):
            story = new_story(code)
            seen = Seen(story, [run(1)])
            self.assertEqual((seen.number, seen.place, seen.words, seen.said), (1, BEGIN + len(code), 0, ""))
            self.assertEqual(seen.memory(), story)

    def test_0_10_at_the_storys_end(self):
        seen = do(op("0:10"), steps=3, at=SIZE - 1)
        self.assertEqual((seen.number, seen.done, seen.place), (0, 1, SIZE - 1))

    def sum_holds(self, length, added=0, **story):
        told = new_story(op("0:13", go=(True, 40)), parts=((FREE, [255] * 100), (63, [1, 2])), **story)
        put(told, 26, two_bytes(length))
        total = sum(told[64:2 * length]) + added
        put(told, 28, two_bytes(total % 65536))
        seen = Seen(told, [run(1)])
        self.assertEqual(seen.number, 1)
        return seen.place == BEGIN + 40

    def test_0_13(self):
        self.assertTrue(self.sum_holds(SIZE // 2))
        self.assertFalse(self.sum_holds(SIZE // 2, 1))
        self.assertFalse(self.sum_holds(SIZE // 2, 65535))
        self.assertTrue(self.sum_holds(FREE // 2 + 5))
        self.assertTrue(self.sum_holds(32))
        self.assertTrue(self.sum_holds(0))
        self.assertFalse(self.sum_holds(0, 1))
        self.assertFalse(self.sum_holds(SIZE // 2 + 1))
        self.assertFalse(self.sum_holds(65535))

    def test_0_13_of_an_odd_length(self):
        self.assertFalse(self.sum_holds((SIZE + 2) // 2, size=SIZE + 1))
        self.assertTrue(self.sum_holds(SIZE // 2, size=SIZE + 1))

    def test_0_13_sums_modulo_65536(self):
        story = new_story(op("0:13", go=(True, 40)), size=2048, parts=((FREE, [255] * 1000),))
        put(story, 26, two_bytes(1024))
        total = sum(story[64:])
        self.assertGreater(total, 65536)
        put(story, 28, two_bytes(total % 65536))
        self.assertEqual(Seen(story, [run(1)]).place, BEGIN + 40)

    def test_0_13_sums_the_story_as_it_was_loaded(self):
        code = op("4:2", W(FREE), B(0), B(1)) + op("4:1", B(28), B(0), W(9)) + op("4:1", B(26), B(0), W(9))
        code += op("0:13", go=(True, 40))
        story = new_story(code)
        put(story, 26, two_bytes(SIZE // 2))
        put(story, 28, two_bytes(sum(story[64:])))
        self.assertEqual(Seen(story, [run(4)]).place, BEGIN + len(code) + 38)

    def test_faults_of_0_13(self):
        self.assertEqual(fault(op("0:13", go=(False, 1)), head={28: 1}), 18)
        self.assertEqual(fault(op("0:13", go=(False, -4000)), head={28: 1}), 17)


if __name__ == "__main__":
    unittest.main()
