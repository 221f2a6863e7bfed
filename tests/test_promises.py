"""What holds of all stories, tried on stories made by chance from fixed seeds."""

import random
import unittest

from storymachine.machine import new_machine
from storymachine.steps import run_machine
from storymachine.stories import answers
from tests.helper import (
    ABBREVIATIONS, BEGIN, DICTIONARY, FREE, SIZE, STAND, B, Seen, V, W, ask_code, ask_name, ask_prop, ask_text, ask_word,
    byte, line, load, new_story, op, run, split_answers, tell, text_words, thing_bytes, two_bytes, whole_state,
)

LOW = 660

WRITE = {"1:1", "1:2", "1:3", "1:4", "1:14", "1:15", "2:8", "2:9", "2:15", "2:16", "2:17", "2:18", "2:19", "2:20",
         "2:21", "2:22", "2:23", "2:24", "4:0", "4:7"}
BRANCH = {"0:5", "0:6", "0:13", "1:0", "1:1", "1:2", "2:1", "2:2", "2:3", "2:4", "2:5", "2:6", "2:7", "2:10"}
MANY = {"4:0": (1, 4), "4:1": (3, 3), "4:2": (3, 3), "4:3": (3, 3), "4:4": (2, 2), "4:5": (1, 1), "4:6": (1, 1),
        "4:7": (1, 1), "4:8": (1, 1), "4:9": (1, 1), "4:10": (0, 4), "4:20": (0, 2), "2:1": (2, 4)}
NAMES = [f"0:{n}" for n in (0, 1, 2, 4, 5, 6, 7, 8, 9, 11, 12, 13)] + [f"1:{n}" for n in range(16) if n != 8]
NAMES += [f"2:{n}" for n in range(1, 25)] + ["4:0", "4:1", "4:2", "4:3", "4:4", "4:5", "4:6", "4:7", "4:8", "4:8", "4:8"]
NAMES += ["4:9", "4:10", "4:20"]


def some_operand(chance):
    turn = chance.random()
    if turn < 0.35:
        return V(chance.choice((0, 0, 1, 2, 16, 17, 18, 19, 20)))
    if turn < 0.85:
        return B(chance.choice((0, 1, 2, 3, 4, 5, 16, 17, 20, 31, 32, 255, chance.randrange(256))))
    return W(chance.choice((FREE, FREE + 20, 64, LOW - 1, LOW, SIZE - 1, 65535, 250, 260, chance.randrange(65536))))


def some_instruction(chance):
    name = chance.choice(NAMES)
    group = int(name[0])
    if name == "4:0":
        operands = [W(chance.choice((250, 250, 0, 260)))] + [B(chance.randrange(9)) for i in range(chance.randrange(4))]
    elif name == "4:4":
        operands = [W(64 + 100), W(64 + 140)]
    else:
        fewest, most = MANY.get(name, (group, group))
        operands = [some_operand(chance) for i in range(chance.randint(fewest, most))]
    to = chance.choice((0, 0, 1, 16, 17, 18)) if name in WRITE else None
    go = (chance.random() < 0.5, chance.choice((2, 2, 2, 0, 1, 5, 9, -6))) if name in BRANCH else None
    code = op(name, *operands, to=to, go=go)
    if name == "0:2":
        code += text_words([chance.randrange(32) for i in range(chance.randint(1, 9))])
    if name == "1:12":
        code = op(name, W(chance.choice((2, 4, 5, 65530))))
    return code


def story_with(code, chance):
    routine = [2, 0, 5, 0, 6]
    while len(routine) < 60:
        routine += some_instruction(chance)
    things = []
    for k in range(4):
        things += thing_bytes(chance.getrandbits(32), chance.randrange(6), chance.randrange(6), chance.randrange(6), FREE)
    name = [1] + text_words([12, 13, 14]) + [20, 7, 42, 1, 2, 0]
    parts = (
        (BEGIN, code[:140]), (462, things), (500, routine[:60]), (520, [0, 176, 186]), (FREE, name),
        (DICTIONARY, [1, 44, 4, 0, 1] + [0x46, 0x94, 0xC0, 0xA5]),
        (ABBREVIATIONS, [part for i in range(96) for part in two_bytes((FREE + 1) // 2)]),
        (164, [20]), (204, [4]),
    )
    return new_story([], parts=parts, low=LOW)


def some_story(number):
    chance = random.Random(number)
    code = []
    while len(code) < 120:
        code += some_instruction(chance)
    return story_with(code, chance)


def long_story(number):
    """A story whose instructions are all done, one behind another, up to the last."""
    chance = random.Random(number)
    code = op("4:8", B(3)) * 3
    for turn in range(60):
        longer = code + some_instruction(chance)
        story = story_with(longer, random.Random(number))
        place = tell(load(story, number), run(60), line("Look, x"), run(60), STAND)[-1][2][0]
        if place == BEGIN + len(longer) and len(longer) < 130:
            code = longer
    return story_with(code + some_instruction(chance), random.Random(number))


def cut(total, chance):
    pieces = []
    while sum(pieces) < total:
        pieces.append(min(chance.randint(0, 4), total - sum(pieces)))
    return pieces


def played(story, seed, runs):
    """Runs with a line typed whenever one is waited for; all that's told, put together."""
    calls = [load(story, seed)]
    said = []
    done = 0
    number = None
    for most in runs:
        left = most
        while True:
            answer = tell(*calls, run(left))[-1]
            calls.append(run(left))
            said += answer[1]
            done += answer[2][0]
            left -= answer[2][0]
            number = answer[0]
            if number != 2 or tell(*calls, line("Look, x"))[-1][0] != 0:
                break
            calls.append(line("Look, x"))
    memory = [answer[0] for answer in tell(*calls, *[byte(place) for place in range(60, 700)])[-640:]]
    return number, said, done, tell(*calls, STAND)[-1], memory


class Promises(unittest.TestCase):
    def test_however_runs_are_cut(self):
        reached = 0
        for number in range(30):
            story = long_story(number)
            whole = played(story, number, [30])
            pieces = cut(30, random.Random(-number))
            self.assertEqual(played(story, number, pieces), whole, number)
            reached += whole[2]
        self.assertGreater(reached, 300)

    def test_nothing_is_written_at_low_or_behind_and_the_stack_stays_within_its_bounds(self):
        for number in range(150):
            story = some_story(number)
            calls = []
            for turn in range(12):
                calls += [run(3), line("look"), STAND]
            told = tell(load(story), *calls)
            for answer in told[3::3]:
                self.assertLessEqual(answer[2][1], 64)
                self.assertLessEqual(answer[2][2], 16)
            seen = Seen(story, calls)
            self.assertEqual(seen.memory()[LOW:], story[LOW:])

    def test_a_fault_is_told_again_by_each_run_and_changes_nothing(self):
        faults = {}
        for number in range(300):
            story = some_story(number)
            seen = Seen(story, [run(60)])
            if seen.number >= 16:
                faults[seen.number] = True
                again = Seen(story, [run(60), run(7), run(1)])
                self.assertEqual(again.told[1:], [(seen.number, [], [0])] * 2)
                self.assertEqual((again.place, again.words, again.depth), (seen.place, seen.words, seen.depth))
                self.assertEqual(again.memory(), seen.memory())
        self.assertEqual(sorted(faults), [16, 17, 18, 19, 20, 21])

    def test_bytes_by_chance(self):
        # Whatever stands in a story, each call is answered, and the same each time.
        chance = random.Random(5)
        for turn in range(400):
            size = chance.choice((64, 65, 100, 300, 2048))
            story = [chance.randrange(256) for i in range(size)]
            story[0] = 3
            for at in (6, 8, 10, 12, 24):
                story[at:at + 2] = two_bytes(chance.randrange(size))
            story[14:16] = two_bytes(chance.randint(64, size))
            calls = load(story, chance.getrandbits(64))
            for i in range(10):
                calls += chance.choice((
                    run(20), line("Take the lamp, then go."), STAND, byte(chance.randrange(3000)), [5, i], ask_name(i),
                    ask_text(chance.randrange(size + 9)), ask_prop(i, chance.randrange(40)), ask_word("lamp"), ask_code("go!"),
                ))
            told = answers(calls)
            self.assertEqual(answers(calls), told)
            for answer in split_answers(told):
                self.assertIn(answer[0], range(-8, 2048))

    def test_0_6_goes_back_to_just_what_0_5_kept(self):
        # Instructions that have no fault here, in any order, with keeping and going back among them.
        some = [
            op("4:8", B(5)), op("2:13", B(16), W(0x1234)), op("1:5", B(17)), op("4:7", B(99), to=18), op("4:2", W(320), B(1), B(7)),
            op("2:11", B(1), B(3)), op("4:0", W(260), to=19), op("4:7", W(65500), to=20), op("4:5", B(65)), op("0:5", go=(True, 2)),
        ]
        back = 0
        for number in range(60):
            chance = random.Random(number)
            code = [part for turn in range(12) for part in chance.choice(some)] + op("0:6", go=(True, 2))
            machine = new_machine(new_story(code, parts=((520, [1, 0, 8, 176]),)), number)
            kept = None
            for turn in range(40):
                first = machine.state.memory[machine.state.place]
                report = run_machine(machine, 1)
                self.assertEqual((report.number, report.done), (1, 1))
                machine = report.machine
                if first == 176 + 5:
                    kept = whole_state(machine.state)
                elif first == 176 + 6 and kept is None:
                    break
                elif first == 176 + 6:
                    self.assertEqual(whole_state(machine.state), kept)
                    back += 1
        self.assertGreater(back, 60)


if __name__ == "__main__":
    unittest.main()
