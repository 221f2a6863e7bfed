"""The calls on a machine for stories, and their answers as numbers."""

from storymachine.instructions import waits_for_line
from storymachine.machine import given_word, new_machine
from storymachine.questions import find_question
from storymachine.replies import FITS, NO_STORY, NOT_WAITING, TOO_MUCH, UNFIT, answer, number_alone, typed_refusal
from storymachine.steps import run_machine, try_line

FEWEST_BYTES = 64
MOST_BYTES = 2048
MOST_INSTRUCTIONS = 1000

# How many whole numbers and how many rows stand behind each call's number.
CALL_SHAPES = {
    0: (1, 1), 1: (1, 0), 2: (0, 1), 3: (0, 0), 4: (1, 0), 5: (1, 0),
    6: (1, 0), 7: (1, 0), 8: (2, 0), 9: (0, 1), 10: (0, 1),
}
NEED_NO_STORY = (0, 10)

PLACES_AT = (6, 8, 10, 12, 24)
LOW_AT = 14


class UnknownCall(ValueError):
    def __init__(self, number):
        self.number = number


class Room:
    # Holds the machine from one call to the next; there's none before a story is loaded.
    def __init__(self):
        self.machine = None


class Request:
    def __init__(self, number, numbers, row, behind):
        self.number = number
        self.numbers = numbers
        self.row = row
        self.behind = behind


def is_fit(given):
    length = len(given)
    if length < FEWEST_BYTES or given[0] != 3:
        return False
    low = given_word(given, LOW_AT)
    if low < FEWEST_BYTES or low > length:
        return False
    return all([given_word(given, place) < length for place in PLACES_AT])


def load_story(room, numbers, row):
    if len(row) > MOST_BYTES:
        return number_alone(TOO_MUCH)
    if not is_fit(row):
        return number_alone(UNFIT)
    room.machine = new_machine(row, numbers[0])
    return number_alone(0)


def run_story(room, numbers, row):
    if numbers[0] > MOST_INSTRUCTIONS:
        return number_alone(TOO_MUCH)
    report = run_machine(room.machine, numbers[0])
    room.machine = report.machine
    return answer(report.number, report.said, [report.done])


def take_line_of(room, numbers, row):
    if not waits_for_line(room.machine):
        return number_alone(NOT_WAITING)
    refusal = typed_refusal(row)
    if refusal != FITS:
        return number_alone(refusal)
    outcome = try_line(room.machine, row)
    room.machine = outcome.machine
    return number_alone(outcome.fault)


# These change what the room holds; all other calls only ask.
CHANGES = {0: load_story, 1: run_story, 2: take_line_of}


def read_request(calls, begin):
    number = calls[begin]
    if number not in CALL_SHAPES:
        raise UnknownCall(number)
    shape = CALL_SHAPES[number]
    behind = begin + 1 + shape[0]
    numbers = calls[begin + 1:behind]
    if shape[1] == 0:
        return Request(number, numbers, [], behind)
    row = calls[behind + 1:behind + 1 + calls[behind]]
    return Request(number, numbers, row, behind + 1 + calls[behind])


def answer_request(room, request):
    if room.machine is None and request.number not in NEED_NO_STORY:
        return number_alone(NO_STORY)
    change = CHANGES.get(request.number)
    if change is not None:
        return change(room, request.numbers, request.row)
    question = find_question(request.number)
    return question(room.machine, request.numbers, request.row)


def answers(calls):
    room = Room()
    told = []
    begin = 0
    while begin < len(calls):
        request = read_request(calls, begin)
        reply = answer_request(room, request)
        told.append(len(reply))
        told.extend(reply)
        begin = request.behind
    return told
