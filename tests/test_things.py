"""Things: the tree, marks and properties."""

import unittest

from tests.helper import (
    BEGIN, FREE, SIZE, THINGS, B, W, do, fault_of, new_story, op, put, thing_part, two_bytes, variable_part,
)

# A room (1) with a table (2), a lamp (3) and a box (4) in it, in this order; a coin (5) is in the box.
TREE = (
    thing_part(1, child=2, properties=FREE),
    thing_part(2, parent=1, sibling=3),
    thing_part(3, parent=1, sibling=4),
    thing_part(4, parent=1, child=5),
    thing_part(5, parent=4),
)


# So many bytes of thing 1 are in the story.
def at_the_end(many):
    return {10: SIZE - many - 62}


def fault(code, steps=0, **story):
    story.setdefault("parts", TREE)
    return fault_of(new_story(code, **story), steps)


def links(seen, *numbers):
    """Parent, sibling and first child of each."""
    return [tuple(seen.thing(number)[2][:3]) for number in numbers]


class Numbers(unittest.TestCase):
    def instructions(self, k):
        return (
            op("2:6", k, B(1), go=(True, 2)), op("2:10", k, B(1), go=(True, 2)), op("2:11", k, B(1)), op("2:12", k, B(1)),
            op("2:14", k, B(1)), op("2:17", k, B(1), to=16), op("2:18", k, B(1), to=16), op("2:19", k, B(0), to=16),
            op("1:1", k, to=16, go=(True, 2)), op("1:2", k, to=16, go=(True, 2)), op("1:3", k, to=16), op("1:9", k),
            op("1:10", k), op("4:3", k, B(1), B(1)), op("2:14", B(1), k),
        )

    def test_things_are_1_to_255(self):
        for k in (B(0), W(256), W(65535), W(32769)):
            for code in self.instructions(k):
                self.assertEqual(fault(code), 19, code)

    def test_thing_255_is_beyond_the_end(self):
        for code in self.instructions(B(255)):
            self.assertEqual(fault(code), 17, code)

    def test_thing_1(self):
        parts = (thing_part(1, properties=FREE), (FREE, [0, 1, 7, 0]))
        for code in self.instructions(B(1)):
            self.assertEqual(do(code, parts=parts).number, 1, code)


class Tree(unittest.TestCase):
    def test_1_1_and_1_2(self):
        for name, k, value in (("1:1", 2, 3), ("1:1", 4, 0), ("1:2", 1, 2), ("1:2", 2, 0)):
            code = op(name, B(k), to=16, go=(True, 40))
            seen = do(code, parts=TREE + (variable_part(16, 999),))
            self.assertEqual((seen.number, seen.variable(16)), (1, value))
            self.assertEqual(seen.place, BEGIN + len(code) + (38 if value else 0))

    def test_1_1_that_writes_and_returns(self):
        routine = [0] + op("1:2", B(1), to=0, go=(True, 1))
        seen = do(op("4:0", W(250), to=16), steps=2, parts=TREE + ((500, routine),))
        self.assertEqual((seen.number, seen.variable(16), seen.words, seen.depth), (1, 1, 0, 0))

    def test_1_3(self):
        for k, value in ((1, 0), (2, 1), (5, 4)):
            self.assertEqual(do(op("1:3", B(k), to=16), parts=TREE + (variable_part(16, 9),)).variable(16), value)

    def test_2_6(self):
        for k, m, holds in ((2, 1, True), (5, 4, True), (5, 1, False), (1, 0, True), (2, 0, False), (2, 257, False)):
            code = op("2:6", B(k), W(m), go=(True, 40))
            self.assertEqual(do(code, parts=TREE).place, BEGIN + len(code) + (38 if holds else 0))

    def test_places_at_the_storys_end(self):
        for many, code in (
            (5, op("1:3", B(1), to=16)), (5, op("2:6", B(1), B(1), go=(True, 9))), (6, op("1:1", B(1), to=16, go=(True, 9))),
            (7, op("1:2", B(1), to=16, go=(True, 9))),
        ):
            self.assertEqual(do(code, head=at_the_end(many)).number, 1, code)
            self.assertEqual(fault(code, head=at_the_end(many - 1), parts=()), 17, code)

    def test_1_9_of_the_first_child(self):
        seen = do(op("1:9", B(2)), parts=TREE)
        self.assertEqual(links(seen, 1, 2, 3, 4), [(0, 0, 3), (0, 0, 0), (1, 4, 0), (1, 0, 5)])

    def test_1_9_of_others(self):
        seen = do(op("1:9", B(3)), parts=TREE)
        self.assertEqual(links(seen, 1, 2, 3, 4), [(0, 0, 2), (1, 4, 0), (0, 0, 0), (1, 0, 5)])
        seen = do(op("1:9", B(4)), parts=TREE)
        self.assertEqual(links(seen, 1, 2, 3, 4, 5), [(0, 0, 2), (1, 3, 0), (1, 0, 0), (0, 0, 5), (4, 0, 0)])

    def test_1_9_without_a_parent(self):
        # A sibling without a parent stays as well: nothing happens.
        parts = TREE + (thing_part(6, sibling=3),)
        for k in (1, 6):
            seen = do(op("1:9", B(k)), parts=parts, low=64)
            self.assertEqual((seen.number, seen.memory()), (1, new_story(op("1:9", B(k)), parts=parts, low=64)))

    def test_2_14(self):
        seen = do(op("2:14", B(3), B(4)), parts=TREE)
        self.assertEqual(links(seen, 1, 2, 3, 4, 5), [(0, 0, 2), (1, 4, 0), (4, 5, 0), (1, 0, 3), (4, 0, 0)])
        seen = do(op("2:14", B(5), B(1)), parts=TREE)
        self.assertEqual(links(seen, 1, 2, 4, 5), [(0, 0, 5), (1, 3, 0), (1, 0, 0), (1, 2, 0)])

    def test_2_14_into_the_same_parent(self):
        seen = do(op("2:14", B(2), B(1)), parts=TREE)
        self.assertEqual(links(seen, 1, 2, 3, 4), [(0, 0, 2), (1, 3, 0), (1, 4, 0), (1, 0, 5)])
        seen = do(op("2:14", B(4), B(1)), parts=TREE)
        self.assertEqual(links(seen, 1, 2, 3, 4), [(0, 0, 4), (1, 3, 0), (1, 0, 0), (1, 2, 5)])

    def test_2_14_of_a_thing_without_a_parent(self):
        seen = do(op("2:14", B(9), B(2)), parts=TREE + (thing_part(9, sibling=3),))
        self.assertEqual(links(seen, 2, 9), [(1, 3, 9), (2, 0, 0)])

    def test_2_14_into_itself(self):
        seen = do(op("2:14", B(4), B(4)), parts=TREE)
        self.assertEqual(links(seen, 3, 4), [(1, 0, 0), (4, 5, 4)])

    def test_faults_of_2_14(self):
        self.assertEqual(fault(op("2:14", B(2), B(0))), 19)
        self.assertEqual(fault(op("2:14", B(0), B(255))), 19)
        # Both must be things before anything is read: 19 although thing 255 is beyond the end.
        self.assertEqual(fault(op("2:14", B(255), B(0))), 19)
        self.assertEqual(fault(op("2:14", B(2), B(255))), 17)

    def test_taking_out_one_that_is_not_among_its_parents_children(self):
        for code in (op("1:9", B(7)), op("2:14", B(7), B(1))):
            self.assertEqual(fault(code, parts=TREE + (thing_part(7, parent=1),)), 19)
            self.assertEqual(fault(code, parts=TREE + (thing_part(7, parent=2),)), 19)
        # A ring of siblings has no end.
        ring = (thing_part(1, child=2), thing_part(2, sibling=3), thing_part(3, sibling=2), thing_part(4, parent=1))
        self.assertEqual(fault(op("1:9", B(4)), parts=ring), 19)
        self.assertEqual(fault(op("1:9", B(4)), parts=(thing_part(1, child=2), thing_part(2, sibling=2), ring[3])), 19)

    def test_taking_out_of_a_long_row(self):
        # 100 children; the last is taken out.
        size = 2048
        parts = [thing_part(1, child=2)]
        parts += [thing_part(k, parent=1, sibling=k + 1 if k < 101 else 0) for k in range(2, 102)]
        seen = do(op("1:9", B(101)), size=size, parts=parts, head={8: 64, 24: 64})
        self.assertEqual(links(seen, 100, 101), [(1, 0, 0), (0, 0, 0)])

    def test_places_beyond_the_end_while_taking_out(self):
        parts = (thing_part(1, parent=255),)
        self.assertEqual(fault(op("1:9", B(1)), parts=parts), 17)
        parts = (thing_part(1, child=255), thing_part(2, parent=1))
        self.assertEqual(fault(op("1:9", B(2)), parts=parts), 17)
        parts = (thing_part(1, child=3), thing_part(2, parent=1), thing_part(3, sibling=255))
        self.assertEqual(fault(op("1:9", B(2)), parts=parts), 17)

    def test_the_sibling_is_read_before_the_children_are_gone_through(self):
        # Thing 2 has a parent whose first child is 0; its sibling's byte is just beyond the end.
        head = {10: SIZE - 62 - 9 - 5}
        story = new_story(op("1:9", B(2)), head=head)
        put(story, SIZE - 1, [1])
        self.assertEqual(fault_of(story), 17)
        # With its sibling in the story it isn't found among the children.
        head = {10: SIZE - 62 - 9 - 6}
        story = new_story(op("1:9", B(2)), head=head)
        put(story, SIZE - 2, [1, 0])
        self.assertEqual(fault_of(story), 19)

    def test_links_are_not_written_at_low_or_behind(self):
        first = THINGS + 62
        # Thing 2 out of thing 1: written are the child of 1, then parent and sibling of 2.
        self.assertEqual(do(op("1:9", B(2)), parts=TREE, low=first + 9 + 6).number, 1)
        for low in (first + 9 + 5, first + 9 + 4, first + 6):
            self.assertEqual(fault(op("1:9", B(2)), low=low), 17)
        # Thing 3 out of thing 1: the sibling of 2 is written too.
        self.assertEqual(do(op("1:9", B(3)), parts=TREE, low=first + 18 + 6).number, 1)
        self.assertEqual(fault(op("1:9", B(3)), low=first + 9 + 5), 17)
        # Put into thing 4: its child is written at last.
        self.assertEqual(do(op("2:14", B(2), B(4)), parts=TREE, low=first + 27 + 7).number, 1)
        self.assertEqual(fault(op("2:14", B(2), B(4)), low=first + 27 + 6), 17)

    def test_taken_out_and_put_in_by_random_steps(self):
        # After each step: what is put in is its parent's first child, what's taken out has neither.
        seed = 1
        code = []
        asked = []
        for turn in range(40):
            seed = (seed * 75 + 74) % 65537
            k = 1 + seed % 5
            m = 6 + seed // 5 % 4
            put_in = seed % 3 != 0
            code += op("2:14", B(k), B(m)) if put_in else op("1:9", B(k))
            asked.append((k, m, put_in))
        for turn, (k, m, put_in) in enumerate(asked):
            seen = do(code, steps=turn + 1, at=600)
            self.assertEqual(seen.number, 1)
            self.assertEqual(links(seen, k)[0][0], m if put_in else 0)
            if put_in:
                self.assertEqual(links(seen, m)[0][2], k)
            else:
                self.assertEqual(links(seen, k)[0][:2], (0, 0))


class Marks(unittest.TestCase):
    def test_each_mark(self):
        for mark in range(32):
            bit = 1 << 31 - mark
            seen = do(op("2:11", B(2), B(mark)), parts=(thing_part(2, marks=0),))
            self.assertEqual(seen.thing(2)[2][3], bit)
            seen = do(op("2:12", B(2), B(mark)), parts=(thing_part(2, marks=2 ** 32 - 1),))
            self.assertEqual(seen.thing(2)[2][3], 2 ** 32 - 1 - bit)
            for marks, holds in ((bit, True), (2 ** 32 - 1 - bit, False)):
                code = op("2:10", B(2), B(mark), go=(True, 40))
                seen = do(code, parts=(thing_part(2, marks=marks),))
                self.assertEqual(seen.place, BEGIN + len(code) + (38 if holds else 0))

    def test_twice(self):
        seen = do(op("2:11", B(2), B(9)) * 2, steps=2)
        self.assertEqual(seen.thing(2)[2], [0, 0, 0, 1 << 22, 0])
        seen = do(op("2:12", B(2), B(9)), steps=1)
        self.assertEqual(seen.thing(2)[2], [0, 0, 0, 0, 0])

    def test_faults(self):
        for name in ("2:10", "2:11", "2:12"):
            branch = (True, 2) if name == "2:10" else None
            for mark in (B(32), B(255), W(65535)):
                self.assertEqual(fault(op(name, B(2), mark, go=branch)), 19)
            # 19 of a mark goes before the place of a thing beyond the end.
            self.assertEqual(fault(op(name, B(255), B(32), go=branch)), 19)
            self.assertEqual(fault(op(name, B(255), B(31), go=branch)), 17)
            self.assertEqual(do(op(name, B(1), B(7), go=branch), head=at_the_end(1)).number, 1)
            self.assertEqual(fault(op(name, B(1), B(8), go=branch), head=at_the_end(1), parts=()), 17)

    def test_not_written_at_low_or_behind(self):
        first = THINGS + 62
        for name in ("2:11", "2:12"):
            self.assertEqual(do(op(name, B(1), B(8)), low=first + 2).number, 1)
            self.assertEqual(fault(op(name, B(1), B(8)), low=first + 1, parts=()), 17)
        self.assertEqual(do(op("2:10", B(1), B(8), go=(True, 2)), low=64).number, 1)


class Properties(unittest.TestCase):
    # Name of one word; property 20 of one byte, 10 of two, 10 again, 5 of three, 3 of eight.
    ROW = [1, 0x80, 0, 20, 77, 42, 0x12, 0x34, 42, 0x99, 0x99, 69, 1, 2, 3, 227, 1, 2, 3, 4, 5, 6, 7, 8, 0]
    PARTS = (thing_part(1, properties=FREE), (FREE, ROW), (THINGS, two_bytes(111)), (THINGS + 60, two_bytes(333)))

    def value(self, name, *operands, parts=None):
        code = op(name, *operands, to=16)
        seen = do(code, parts=(parts or self.PARTS) + (variable_part(16, 999),))
        self.assertEqual((seen.number, seen.place), (1, BEGIN + len(code)))
        return seen.variable(16)

    def fault(self, code, parts=None, **story):
        return fault(code, parts=self.PARTS if parts is None else parts, **story)

    def test_2_17(self):
        self.assertEqual(self.value("2:17", B(1), B(20)), 77)
        self.assertEqual(self.value("2:17", B(1), B(10)), 0x1234)
        self.assertEqual(self.value("2:17", B(1), B(1)), 111)
        self.assertEqual(self.value("2:17", B(1), B(31)), 333)
        self.assertEqual(self.value("2:17", B(1), B(2)), 0)

    def test_faults_of_2_17(self):
        for p in (B(5), B(3), B(0), B(32), W(65535)):
            self.assertEqual(self.fault(op("2:17", B(1), p, to=16)), 19)
        self.assertEqual(self.fault(op("2:17", B(255), B(0), to=16)), 19)

    def test_2_17_at_the_storys_end(self):
        for row, p, number in (
            ([0, 1, 9], 1, 1), ([0, 1], 1, 17), ([0, 33, 9, 9], 1, 1), ([0, 33, 9], 1, 17), ([0], 1, 17), ([0, 2, 9], 1, 17),
            ([0, 2, 9, 0], 1, 1), ([1, 0, 0], 1, 17), ([9, 0, 0], 1, 17),
        ):
            parts = (thing_part(1, properties=SIZE - len(row)), (SIZE - len(row), row))
            self.assertEqual(do(op("2:17", B(1), B(p), to=16), parts=parts).number, number, row)
        for place, number in ((SIZE, 17), (65535, 17)):
            self.assertEqual(self.fault(op("2:17", B(1), B(1), to=16), (thing_part(1, properties=place),)), number)

    def test_the_common_value_at_the_storys_end(self):
        # The common values stand before thing 1, so the word that tells where its properties are is missed first.
        self.assertEqual(fault(op("2:17", B(1), B(1), to=16), head=at_the_end(8), parts=()), 17)
        self.assertEqual(do(op("2:17", B(1), B(1), to=16), head=at_the_end(9), parts=((SIZE - 2, two_bytes(FREE)),)).number, 1)

    def test_a_byte_that_is_not_0_but_tells_number_0(self):
        # 64 is a property 0 of three bytes: it's passed over, it doesn't end the row.
        parts = (thing_part(1, properties=FREE), (FREE, [0, 64, 0, 0, 0, 7, 55, 0]))
        self.assertEqual(self.value("2:17", B(1), B(7), parts=parts), 55)
        self.assertEqual(self.value("2:19", B(1), B(0), parts=parts), 0)

    def test_2_18(self):
        self.assertEqual(self.value("2:18", B(1), B(20)), FREE + 4)
        self.assertEqual(self.value("2:18", B(1), B(10)), FREE + 6)
        self.assertEqual(self.value("2:18", B(1), B(3)), FREE + 16)
        self.assertEqual(self.value("2:18", B(1), B(1)), 0)
        for p in (B(0), B(32), W(256)):
            self.assertEqual(self.fault(op("2:18", B(1), p, to=16)), 19)

    def test_2_18_whose_bytes_are_beyond_the_end(self):
        parts = (thing_part(1, properties=SIZE - 2), (SIZE - 2, [0, 7]))
        self.assertEqual(self.value("2:18", B(1), B(7), parts=parts), SIZE)
        self.assertEqual(self.fault(op("2:18", B(1), B(8), to=16), parts), 17)

    def test_2_19(self):
        for p, after in ((0, 20), (20, 10), (10, 10), (5, 3), (3, 0)):
            self.assertEqual(self.value("2:19", B(1), B(p)), after)
        parts = (thing_part(1, properties=FREE), (FREE, [0, 0]))
        self.assertEqual(self.value("2:19", B(1), B(0), parts=parts), 0)

    def test_faults_of_2_19(self):
        for p in (B(1), B(31), B(32), W(65535)):
            self.assertEqual(self.fault(op("2:19", B(1), p, to=16)), 19)
        parts = (thing_part(1, properties=SIZE - 3), (SIZE - 3, [0, 7, 7]))
        self.assertEqual(self.fault(op("2:19", B(1), B(7), to=16), parts), 17)
        parts = (thing_part(1, properties=SIZE - 1),)
        self.assertEqual(self.fault(op("2:19", B(1), B(0), to=16), parts), 17)

    def test_1_4(self):
        for place, length in ((FREE + 4, 1), (FREE + 6, 2), (FREE + 12, 3), (FREE + 16, 8)):
            self.assertEqual(self.value("1:4", W(place)), length)
        self.assertEqual(self.value("1:4", B(0)), 0)
        self.assertEqual(self.value("1:4", B(1)), 1)
        self.assertEqual(self.value("1:4", W(SIZE), parts=((SIZE - 1, [255]),)), 8)
        self.assertEqual(self.fault(op("1:4", W(SIZE + 1), to=16)), 17)
        self.assertEqual(self.fault(op("1:4", W(65535), to=16)), 17)

    def test_4_3(self):
        seen = do(op("4:3", B(1), B(20), W(0xABCD)), parts=self.PARTS)
        self.assertEqual((seen.number, seen.row(FREE + 3, 3)), (1, [20, 0xCD, 42]))
        seen = do(op("4:3", B(1), B(10), W(0xABCD)), parts=self.PARTS)
        self.assertEqual((seen.number, seen.row(FREE + 5, 6)), (1, [42, 0xAB, 0xCD, 42, 0x99, 0x99]))

    def test_faults_of_4_3(self):
        for p in (B(1), B(5), B(3), B(0), B(32), W(65535)):
            self.assertEqual(self.fault(op("4:3", B(1), p, B(1))), 19)
        for p, low, number in ((20, FREE + 5, 1), (20, FREE + 4, 17), (10, FREE + 8, 1), (10, FREE + 7, 17), (5, FREE, 19)):
            self.assertEqual(do(op("4:3", B(1), B(p), B(1)), parts=self.PARTS, low=low).number, number)
        self.assertEqual(self.fault(op("4:3", B(1), B(10), W(1)), low=FREE + 7), 17)
        parts = (thing_part(1, properties=SIZE - 2), (SIZE - 2, [0, 7]))
        self.assertEqual(self.fault(op("4:3", B(1), B(7), B(1)), parts), 17)
        self.assertEqual(self.fault(op("4:3", B(1), B(8), B(1)), parts), 17)

    def test_a_wrong_number_goes_before_a_place_beyond_the_end(self):
        parts = (thing_part(1, properties=SIZE), thing_part(2, properties=FREE), (FREE, [0, 32, 1, 2, 0]))
        for name, behind, to in (("2:17", [], 16), ("2:18", [], 16), ("2:19", [], 16), ("4:3", [B(1)], None)):
            self.assertEqual(self.fault(op(name, B(1), B(32), *behind, to=to), parts), 19)
            self.assertEqual(self.fault(op(name, B(1), B(31), *behind, to=to), parts), 17)
            if name != "2:19":
                # Property 0 of two bytes stands there, but none is asked for by that number.
                self.assertEqual(self.fault(op(name, B(1), B(0), *behind, to=to), parts), 19)
                self.assertEqual(self.fault(op(name, B(2), B(0), *behind, to=to), parts), 19)
        self.assertEqual(self.fault(op("2:19", B(1), B(0), to=16), parts), 17)

    def test_faults_of_the_arrow(self):
        for code in (op("2:17", B(1), B(20), to=1), op("2:18", B(1), B(20), to=1), op("2:19", B(1), B(20), to=1),
                     op("1:4", B(0), to=1), op("1:3", B(1), to=1), op("1:1", B(1), to=1, go=(True, 2))):
            self.assertEqual(self.fault(code), 18)


if __name__ == "__main__":
    unittest.main()
