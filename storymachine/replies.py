"""The form of an answer, and the refusals."""

UNFIT = -1
TOO_MUCH = -2
NOT_THERE = -3
NOT_WAITING = -5
NO_STORY = -8

FITS = 0

MOST_TYPED = 255
FIRST_TYPED = 32
LAST_TYPED = 126


def answer(number, told, further):
    return [number, len(told)] + told + [len(further)] + further


def number_alone(number):
    return answer(number, [], [])


def bytes_told(told, further):
    return answer(len(told), told, further)


# What a row that should be typed is refused by, if it is.
def typed_refusal(row):
    if len(row) > MOST_TYPED:
        return TOO_MUCH
    if not all([FIRST_TYPED <= letter <= LAST_TYPED for letter in row]):
        return UNFIT
    return FITS
