"""A tale, and its states.

Within the program a state is one whole number: every value of every var has
a bit of its own, and of each var the bit of the value that it has is set. So
a condition is two numbers, asked by one & and one ==, however many parts it
has, and a change is two numbers too.
"""

STATE_NUMBERS = 24

LOST = "lost"
WON = "won"
GOES_ON = "goes on"

ALWAYS = (0, 0)
NEVER = (0, 1)


class Tale:
    """What a tale's text says, as far as states and turns need it."""

    def __init__(self):
        self.bits = {}
        self.fields = []
        self.width = 0
        self.first = 0
        self.lines = {}
        self.whens = []
        self.show_count = 0
        self.wons = []
        self.losts = []

    def add_var(self, name, values):
        self.bits[name] = dict([(value, 1 << (self.width + place)) for place, value in enumerate(values)])
        self.fields.append((self.width, len(values)))
        self.first |= 1 << self.width
        self.width += len(values)

    def add_when(self, line, condition, change):
        """Adds a when; whens of one line bear the same line's number."""
        number = self.lines.setdefault(line, len(self.lines))
        self.whens.append((number, condition[0], condition[1], change[0], change[1]))


def condition_of(wanted, unwanted):
    """A condition: the bits that are asked for, and which of them must be set."""
    if wanted & unwanted:
        return NEVER
    return (wanted | unwanted, wanted)


def change_of(tale, values):
    """A change, from the value that each changed var gets: the bits that stay, and those that are set."""
    keep = (1 << tale.width) - 1
    put = 0
    for name, value in values.items():
        keep -= sum(tale.bits[name].values())
        put += tale.bits[name][value]
    return (keep, put)


def some_holds(conditions, state):
    for mask, wanted in conditions:
        if state & mask == wanted:
            return True
    return False


def standing(tale, state):
    """Whether it is lost, won, or goes on in a state."""
    if some_holds(tale.losts, state):
        return LOST
    if some_holds(tale.wons, state):
        return WON
    return GOES_ON


def turns_from(tale, state):
    """The turns from a state that goes on: of each line's number, where it leads.

    They stand by the numbers of the whens that are done: a line comes in
    with the first of its whens that can be done, and stays there.
    """
    turns = {}
    for line, mask, wanted, keep, put in tale.whens:
        if state & mask == wanted and line not in turns:
            turns[line] = state & keep | put
    return turns


def when_done(tale, state, typed):
    """The number of the when that is done where the line of this number is typed."""
    for number, when in enumerate(tale.whens):
        if when[0] == typed and state & when[1] == when[2]:
            return number
    return None


def state_numbers(tale, state):
    """The numbers by which a state is told: of each var its value's, then 0."""
    numbers = []
    for low, size in tale.fields:
        field = (state >> low) & ((1 << size) - 1)
        numbers.append(field.bit_length() - 1)
    return numbers + [0] * (STATE_NUMBERS - len(numbers))


def state_told(tale, numbers):
    """The state that numbers tell, or None if they tell none of this tale."""
    state = 0
    for number, field in zip(numbers, tale.fields):
        if number >= field[1]:
            return None
        state |= 1 << (field[0] + number)
    if any(numbers[len(tale.fields):]):
        return None
    return state
