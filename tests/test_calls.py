"""load, run, stand, byte, thing, and the form of the answers."""

import unittest

from storymachine.stories import answers
from tests.helper import (
    BEGIN, DICTIONARY, SIZE, STAND, VARIABLES, B, V, W, byte, do, line, load, new_story, op, put, run, tell, thing, thing_bytes,
    thing_part, two_bytes,
)

OK = (0, [], [])


def small_story(size=64, low=64, begin=40, code=(186,)):
    story = [0] * size
    story[0] = 3
    put(story, 6, two_bytes(begin))
    put(story, 14, two_bytes(low))
    put(story, begin, list(code))
    return story


class NoStory(unittest.TestCase):
    def test_calls_before_a_story(self):
        for call in (run(1), run(2000), line("look"), line([7] * 300), STAND, byte(0), byte(5000), thing(1), thing(0)):
            with self.subTest(call=call[:3]):
                self.assertEqual(answers(call), [3, -8, 0, 0])

    def test_other_calls_before_a_story(self):
        calls = [6, 1] + [7, 64] + [8, 1, 1] + [9, 2, 65, 66] + STAND
        self.assertEqual(answers(calls), [3, -8, 0, 0] * 5)

    def test_calls_behind_a_refused_load(self):
        told = tell(load([3] * 10), STAND, run(0), line(""))
        self.assertEqual(told, [(-1, [], []), (-8, [], []), (-8, [], []), (-8, [], [])])


class Load(unittest.TestCase):
    def refusal(self, story, seed=0):
        return tell(load(story, seed))[0]

    def test_sizes(self):
        self.assertEqual(self.refusal(small_story()), OK)
        self.assertEqual(self.refusal(small_story(2048, 2048)), OK)
        self.assertEqual(self.refusal(small_story()[:63]), (-1, [], []))
        self.assertEqual(self.refusal([]), (-1, [], []))
        self.assertEqual(self.refusal(small_story(2049, 2048)), (-2, [], []))

    def test_too_many_bytes_goes_first(self):
        self.assertEqual(self.refusal([0] * 2049), (-2, [], []))

    def test_byte_0(self):
        for first in (0, 1, 2, 4, 5, 255):
            story = small_story()
            story[0] = first
            self.assertEqual(self.refusal(story)[0], -1, first)

    def test_low(self):
        for size, low, number in (
            (64, 64, 0), (64, 63, -1), (64, 65, -1), (64, 0, -1), (100, 64, 0), (100, 100, 0), (100, 99, 0),
            (100, 101, -1), (100, 65535, -1), (2048, 2048, 0), (2048, 2049, -1),
        ):
            with self.subTest(size=size, low=low):
                self.assertEqual(self.refusal(small_story(size, low))[0], number)

    def test_the_five_places(self):
        for at in (6, 8, 10, 12, 24):
            for place, number in ((0, 0), (99, 0), (100, -1), (101, -1), (65535, -1)):
                with self.subTest(at=at, place=place):
                    story = small_story(100, 64)
                    put(story, at, two_bytes(place))
                    self.assertEqual(self.refusal(story)[0], number)

    def test_other_words_may_be_anything(self):
        story = small_story()
        for at in (2, 4, 16, 18, 20, 22, 26, 28, 30):
            put(story, at, [255, 255])
        self.assertEqual(self.refusal(story), OK)

    def test_begins_where_the_word_at_6_says(self):
        told = tell(load(small_story(begin=63)), STAND)
        self.assertEqual(told[1], (0, [], [63, 0, 0]))

    def test_a_refused_load_leaves_the_story(self):
        story = new_story(op("4:8", B(1)) + op("4:8", B(2)) + op("0:11"))
        told = tell(load(story), run(1), load([3] * 64), load([3] * 2049), STAND, run(2), STAND)
        self.assertEqual([answer[0] for answer in told[2:4]], [-1, -2])
        self.assertEqual(told[4][2], [BEGIN + 3, 1, 0])
        self.assertEqual(told[5], (1, [10], [2]))
        self.assertEqual(told[6][2], [BEGIN + 7, 2, 0])

    def test_a_new_load_begins_anew(self):
        keep = op("0:5", go=(True, 2))
        back = op("0:6", go=(True, 2))
        first = new_story(keep + op("4:8", B(1)) + op("0:10"))
        second = new_story(back + op("0:10"))
        told = tell(load(first), run(9), load(second), STAND, run(1), STAND)
        self.assertEqual(told[1], (0, [], [3]))
        self.assertEqual(told[3][2], [BEGIN, 0, 0])
        self.assertEqual(told[4], (1, [], [1]))
        self.assertEqual(told[5][2], [BEGIN + 2, 0, 0])

    def test_the_seed_is_taken_modulo_2_to_the_32(self):
        code = op("4:7", W(30000), to=16)
        values = [do(code, seed=seed).variable(16) for seed in (5, 5 + 2 ** 32, 2 ** 64 - 2 ** 32 + 5)]
        drawn = 1 + ((1664525 * 5 + 1013904223) % 2 ** 32 >> 16) % 30000
        self.assertEqual(values, [drawn] * 3)

    def test_what_the_first_bytes_say_is_taken_when_loaded(self):
        # All of the first 64 bytes are overwritten; variables, things and low are still where they were.
        code = op("4:1", B(12), B(0), W(500)) + op("4:1", B(10), B(0), W(500)) + op("4:1", B(14), B(0), W(64))
        code += op("2:13", B(16), B(77)) + op("1:3", B(1), to=17)
        seen = do(code, steps=5, parts=(thing_part(1, parent=9),))
        self.assertEqual((seen.number, seen.done), (1, 5))
        self.assertEqual((seen.variable(16), seen.variable(17)), (77, 9))


class Run(unittest.TestCase):
    def test_most(self):
        story = new_story(op("1:12", W(65535)))  # jumps to itself: 3 bytes, - 1 - 2
        for most in (0, 1, 2, 999, 1000):
            with self.subTest(most=most):
                self.assertEqual(tell(load(story), run(most))[1], (1, [], [most]))
        for most in (1001, 2000):
            with self.subTest(most=most):
                told = tell(load(story), run(most), STAND)
                self.assertEqual(told[1:], [(-2, [], []), (0, [], [BEGIN, 0, 0])])

    def test_ended(self):
        story = new_story(op("0:11") + op("0:10"))
        told = tell(load(story), run(0), run(2), run(0), run(5), STAND, line("x"))
        self.assertEqual(told[1], (1, [], [0]))
        self.assertEqual(told[2], (0, [10], [2]))
        self.assertEqual(told[3], (0, [], [0]))
        self.assertEqual(told[4], (0, [], [0]))
        self.assertEqual(told[5], (0, [], [BEGIN + 1, 0, 0]))
        self.assertEqual(told[6], (-5, [], []))

    def test_ended_goes_before_most_done(self):
        self.assertEqual(tell(load(new_story(op("0:10"))), run(1))[1], (0, [], [1]))

    def test_most_done_goes_before_waiting(self):
        story = new_story(op("0:4") + op("4:4", B(1), B(1)))
        told = tell(load(story), run(1), run(0), run(1), run(1), STAND)
        self.assertEqual(told[1:5], [(1, [], [1]), (1, [], [0]), (2, [], [0]), (2, [], [0])])
        self.assertEqual(told[5][2], [BEGIN + 1, 0, 0])

    def test_most_done_goes_before_a_fault(self):
        story = new_story(op("0:11") + [0])
        told = tell(load(story), run(1), run(0), run(3), run(1), STAND)
        self.assertEqual(told[1:5], [(1, [10], [1]), (1, [], [0]), (16, [], [0]), (16, [], [0])])
        self.assertEqual(told[5][2], [BEGIN + 1, 0, 0])

    def test_waits_whatever_is_wrong_with_the_operands(self):
        for code in (
            op("4:4", V(0), V(1)), op("4:4", V(255), V(255)), op("4:4", W(65535), W(65535)), [228, 0b10101101],
        ):
            self.assertEqual(do(code).number, 2, code)
        self.assertEqual(do([228, 0b01011111], at=SIZE - 2).number, 2)

    def test_does_not_wait_with_other_numbers_of_operands(self):
        for second in (0b11111111, 0b01111111, 0b01010111, 0b01010101, 0b11010111):
            self.assertEqual(do([228, second]).number, 16, second)
        self.assertEqual(do([228], at=SIZE - 1).number, 17)

    def test_counts_and_says_up_to_the_fault(self):
        story = new_story(op("4:5", B(72)) + op("4:6", W(65531)) + op("0:11") + op("2:23", B(1), B(0), to=16))
        told = tell(load(story), run(1000))
        self.assertEqual(told[1], (20, [72, 45, 53, 10], [3]))

    def test_however_runs_are_cut(self):
        code = op("4:8", B(0))
        loop = op("4:7", B(100), to=17) + op("4:6", V(17)) + op("0:11") + op("2:5", B(0), B(9), go=(True, 5))
        code += loop + op("1:12", W(65536 - len(loop) - 3 + 2)) + op("0:10")
        story = new_story(code)
        whole = tell(load(story, 3), run(900), STAND)
        self.assertEqual(whole[1][0], 0)
        for cuts in ([1] * 60, [2, 3] * 15, [7] * 9, [0, 13, 0, 50]):
            told = tell(load(story, 3), *[run(most) for most in cuts], STAND)
            self.assertEqual(told[-2][0], 0)
            self.assertEqual([sign for answer in told[1:-1] for sign in answer[1]], whole[1][1])
            self.assertEqual(sum(answer[2][0] for answer in told[1:-1]), whole[1][2][0])
            self.assertEqual(told[-1], whole[-1])


class Looking(unittest.TestCase):
    def test_stand(self):
        routine = [0] + op("4:8", B(9)) + op("4:8", B(9))
        code = op("4:8", B(1)) + op("4:0", B(250), to=0)
        story = new_story(code, parts=((500, routine),))
        told = tell(load(story), STAND, run(1), STAND, run(1), STAND, run(2), STAND)
        self.assertEqual([told[i] for i in (1, 3, 5, 7)], [
            (0, [], [BEGIN, 0, 0]), (0, [], [BEGIN + 3, 1, 0]), (0, [], [501, 1, 1]), (0, [], [507, 3, 1]),
        ])

    def test_byte(self):
        story = new_story(op("4:2", W(900), B(0), B(7)), parts=((SIZE - 1, [200]), (900, [1])))
        told = tell(load(story), byte(0), byte(900), byte(SIZE - 1), byte(SIZE), byte(2 ** 64 - 1), run(1), byte(900))
        self.assertEqual([answer[0] for answer in told[1:6]], [3, 1, 200, -3, -3])
        self.assertEqual(told[7], (7, [], []))
        self.assertTrue(all(answer[1:] == ([], []) for answer in told[1:6]))

    def test_byte_at_the_end_of_the_smallest_and_largest_story(self):
        for size in (64, 2048):
            told = tell(load(small_story(size)), byte(size - 1), byte(size))
            self.assertEqual([answer[0] for answer in told[1:]], [0, -3])

    def test_thing(self):
        parts = (thing_part(1, marks=0x80000001, parent=2, sibling=3, child=4, properties=0xABCD),)
        told = tell(load(new_story([], parts=parts)), thing(1), thing(2))
        self.assertEqual(told[1], (0, [], [2, 3, 4, 0x80000001, 0xABCD]))
        self.assertEqual(told[2], (0, [], [0, 0, 0, 0, 0]))

    def test_thing_numbers(self):
        told = tell(load(new_story([])), thing(0), thing(256), thing(2 ** 64 - 1))
        self.assertEqual(told[1:], [(-3, [], [])] * 3)

    def test_thing_at_the_storys_end(self):
        place = SIZE - 9
        story = new_story([], head={10: place - 62 - 9})
        put(story, place, thing_bytes(marks=1, parent=2, sibling=3, child=4, properties=5))
        self.assertEqual(tell(load(story), thing(2), thing(3))[1:], [(0, [], [2, 3, 4, 1, 5]), (-3, [], [])])
        story = new_story([], head={10: place - 62 - 8})
        self.assertEqual(tell(load(story), thing(1), thing(2))[1:], [(0, [], [0] * 5), (-3, [], [])])

    def test_the_last_things_of_the_largest_story(self):
        # 62 + 9 * 220 is 2,042: thing 220 is the last that a story has room for.
        story = new_story([], size=2048, head={10: 0})
        told = tell(load(story), thing(220), thing(221), thing(255))
        self.assertEqual([answer[0] for answer in told[1:]], [0, -3, -3])

    def test_thing_is_told_as_it_is_now(self):
        seen = do(op("2:11", B(1), B(31)) + op("2:14", B(1), B(2)), steps=2)
        self.assertEqual(seen.thing(1), (0, [], [2, 0, 0, 1, 0]))
        self.assertEqual(seen.thing(2), (0, [], [0, 0, 1, 0, 0]))

    def test_what_only_asks_changes_nothing(self):
        story = new_story(op("4:8", B(1)) + op("0:11"))
        asked = [STAND, byte(3), byte(9999), thing(1), thing(0), line("no"), run(1500), load([1])]
        quiet = tell(load(story), run(1), run(1), STAND)
        told = tell(load(story), *asked, run(1), *asked, run(1), *asked, STAND)
        self.assertEqual(told[-1], quiet[-1])
        self.assertEqual([told[9], told[18]], quiet[1:3])


class Interface(unittest.TestCase):
    def test_numbers_of_each_answer(self):
        story = new_story(op("4:5", B(65)) + op("4:4", B(200), B(210)))
        told = answers(load(story) + run(9) + line("") + STAND + byte(0) + thing(1) + byte(4000))
        self.assertEqual(told[:4], [3, 0, 0, 0])
        self.assertEqual(told[4:10], [5, 2, 1, 65, 1, 1])
        self.assertEqual(told[10:14], [3, 21, 0, 0])
        self.assertEqual(told[14:21], [6, 0, 0, 3, BEGIN + 3, 0, 0])
        self.assertEqual(told[21:25], [3, 3, 0, 0])
        self.assertEqual(told[25:34], [8, 0, 0, 5, 0, 0, 0, 0, 0])
        self.assertEqual(told[34:], [3, -3, 0, 0])

    def test_the_list_is_left_as_it_was_and_nothing_is_kept(self):
        code = op("4:1", W(VARIABLES), B(0), W(1234)) + op("0:5", go=(True, 2)) + op("4:4", W(900), W(950))
        parts = ((DICTIONARY, [0, 4, 0, 0]), (900, [20]), (950, [4]))
        calls = load(new_story(code, parts=parts), 99) + run(9) + line("Open Door") + run(3) + byte(901)
        before = list(calls)
        first = answers(calls)
        self.assertEqual(calls, before)
        self.assertEqual(answers(calls), first)
        self.assertEqual(answers(STAND), [3, -8, 0, 0])
        self.assertEqual(answers(calls), first)
        self.assertEqual(first[-3:], [ord("o"), 0, 0])

    def test_whole_numbers_alone(self):
        code = op("2:10", B(1), B(0), go=(True, 3)) + op("0:13", go=(False, 2)) + op("1:1", B(1), to=16, go=(True, 2))
        told = answers(load(new_story(code)) + run(3) + STAND + byte(VARIABLES) + thing(1))
        self.assertIs(type(told), list)
        self.assertTrue(all(type(number) is int for number in told))


if __name__ == "__main__":
    unittest.main()
