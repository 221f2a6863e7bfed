"""The story as it was loaded, and the machine that plays it."""


class Story:
    # The story may write into its own first 64 bytes, so what they say is taken once, here.
    def __init__(self, given, seed):
        self.given = given
        self.begin = given_word(given, 6)
        self.dictionary = given_word(given, 8)
        self.things = given_word(given, 10)
        self.variables = given_word(given, 12)
        self.low = given_word(given, 14)
        self.abbreviations = given_word(given, 24)
        self.length = 2 * given_word(given, 26)
        self.total = given_word(given, 28)
        self.seed = seed % 4294967296


class Call:
    # base: how high the stack was; own: its variables; back: where its caller goes on.
    def __init__(self, base, own, back):
        self.base = base
        self.own = own
        self.back = back


class State:
    # All that 0:5 keeps and 0:6 brings back.
    def __init__(self, memory, place, seed):
        self.memory = memory
        self.place = place
        self.seed = seed
        self.stack = []
        self.calls = []

    def twin(self):
        other = State(list(self.memory), self.place, self.seed)
        other.stack = list(self.stack)
        other.calls = [Call(call.base, list(call.own), call.back) for call in self.calls]
        return other


class Machine:
    def __init__(self, story, state, kept):
        self.story = story
        self.state = state
        self.kept = kept
        self.ended = False
        self.said = []

    # What is kept is never changed in its place, so both may hold the same.
    def trial(self):
        return Machine(self.story, self.state.twin(), self.kept)


def given_word(given, place):
    return 256 * given[place] + given[place + 1]


def beginning(story):
    return State(list(story.given), story.begin, story.seed)


def new_machine(given, seed):
    story = Story(given, seed)
    return Machine(story, beginning(story), None)
