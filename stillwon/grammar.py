"""From the words of a tale's text to the tale."""

from stillwon.refusals import NoTale, TextTooLong
from stillwon.tale import ALWAYS, Tale, change_of, condition_of
from stillwon.words import BLANK, NAME, STRING, is_letter_or_digit, words_of

LONGEST_TEXT = 24576
MOST_VARS = 24
FEWEST_VALUES = 2
MOST_VALUES = 16
MOST_WHENS = 128
MOST_SHOWS = 64
MOST_WONS = 16
MOST_LOSTS = 16
MOST_PARTS = 16
LONGEST_LINE = 40

KEPT_BACK = ("var", "when", "show", "won", "lost", "if", "do", "say", "is", "not", "and")
CONDITION_VERBS = ("is", "not")
CHANGE_VERBS = ("is",)


class Reader:
    """Goes through words one by one; the end's word is never gone past."""

    def __init__(self, words):
        self.words = words
        self.at = 0

    def sees(self, text):
        """Whether the word that comes is this name or sign."""
        return self.words[self.at][1] == text

    def accept(self, text):
        """Goes past this name or sign if it comes, and tells whether it did."""
        if not self.sees(text):
            return False
        self.at += 1
        return True

    def expect(self, text):
        if not self.accept(text):
            raise NoTale()

    def take(self, kind):
        """What the word that comes holds, which must be of this kind."""
        word = self.words[self.at]
        if word[0] != kind:
            raise NoTale()
        self.at += 1
        return word[1]

    def at_end(self):
        return self.at == len(self.words) - 1


def tale_of(text):
    """The tale that a text (a list of bytes) tells."""
    if len(text) > LONGEST_TEXT:
        raise TextTooLong()
    reader = Reader(words_of(text))
    tale = Tale()
    while reader.accept("var"):
        read_var(reader, tale)
    while not reader.at_end():
        read_sentence(reader, tale)
    check_counts(tale)
    return tale


def check_counts(tale):
    check_between(1, len(tale.bits), MOST_VARS)
    check_between(1, len(tale.whens), MOST_WHENS)
    check_between(0, tale.show_count, MOST_SHOWS)
    check_between(1, len(tale.wons), MOST_WONS)
    check_between(0, len(tale.losts), MOST_LOSTS)


def check_between(least, count, most):
    if not least <= count <= most:
        raise NoTale()


def read_var(reader, tale):
    name = reader.take(NAME)
    if name in KEPT_BACK or name in tale.bits:
        raise NoTale()
    reader.expect("=")
    values = []
    while not reader.accept(";"):
        values.append(reader.take(NAME))
    check_between(FEWEST_VALUES, len(values), MOST_VALUES)
    if len(set(values)) != len(values):
        raise NoTale()
    tale.add_var(name, values)


def read_sentence(reader, tale):
    """Reads a sentence that is no var's."""
    if reader.accept("when"):
        read_when(reader, tale)
    elif reader.accept("show"):
        reader.take(STRING)
        take_if(reader, tale)
        tale.show_count += 1
    elif reader.accept("won"):
        reader.expect("if")
        tale.wons.append(take_condition(reader, tale))
    elif reader.accept("lost"):
        reader.expect("if")
        tale.losts.append(take_condition(reader, tale))
    else:
        raise NoTale()
    reader.expect(";")


def read_when(reader, tale):
    line = reader.take(STRING)
    check_line(line)
    condition = take_if(reader, tale)
    change = take_do(reader, tale)
    reader.expect("say")
    reader.take(STRING)
    tale.add_when(line, condition, change)


def check_line(line):
    """Refuses what can't be typed: a blank must stand between two that are none."""
    check_between(1, len(line), LONGEST_LINE)
    parted = True
    for byte in line:
        if not is_letter_or_digit(byte) and (byte != BLANK or parted):
            raise NoTale()
        parted = byte == BLANK
    if parted:
        raise NoTale()


def take_if(reader, tale):
    if reader.accept("if"):
        return take_condition(reader, tale)
    return ALWAYS


def take_do(reader, tale):
    if reader.accept("do"):
        return take_change(reader, tale)
    return change_of(tale, {})


def take_condition(reader, tale):
    wanted = 0
    unwanted = 0
    for name, verb, value in take_parts(reader, tale, CONDITION_VERBS):
        if verb == "is":
            wanted |= tale.bits[name][value]
        else:
            unwanted |= tale.bits[name][value]
    return condition_of(wanted, unwanted)


def take_change(reader, tale):
    values = {}
    for name, verb, value in take_parts(reader, tale, CHANGE_VERBS):
        if name in values:
            raise NoTale()
        values[name] = value
    return change_of(tale, values)


def take_parts(reader, tale, verbs):
    """The parts with and between them, each a name, a verb and a value."""
    parts = [take_part(reader, tale, verbs)]
    while reader.accept("and"):
        parts.append(take_part(reader, tale, verbs))
    check_between(1, len(parts), MOST_PARTS)
    return parts


def take_part(reader, tale, verbs):
    name = reader.take(NAME)
    verb = reader.take(NAME)
    value = reader.take(NAME)
    if verb not in verbs or name not in tale.bits or value not in tale.bits[name]:
        raise NoTale()
    return (name, verb, value)
