"""From the bytes of a tale's text to its words."""

from stillwon.refusals import NoTale

NAME = "name"
STRING = "string"
SIGN = "sign"
END = "end"

LINE_FEED = 10
BLANK = 32
QUOTE = 34
DIGIT_0 = 48
DIGIT_9 = 57
LETTER_A = 97
LETTER_Z = 122
LAST_BYTE = 126

LETTERS = "abcdefghijklmnopqrstuvwxyz"
DIGITS = "0123456789"
SIGNS = {59: ";", 61: "="}

LONGEST_NAME = 12
LONGEST_STRING = 255


def is_letter(byte):
    return LETTER_A <= byte <= LETTER_Z


def is_letter_or_digit(byte):
    return is_letter(byte) or DIGIT_0 <= byte <= DIGIT_9


def words_of(text):
    """The words in order, each a kind and what it holds; the last is the end.

    A name and a sign hold a text, a string holds a tuple of bytes, so that
    what a word holds is never mistaken for that of another kind.
    """
    words = []
    at = 0
    while at < len(text):
        byte = text[at]
        if byte == BLANK or byte == LINE_FEED:
            at += 1
        elif byte in SIGNS:
            words.append((SIGN, SIGNS[byte]))
            at += 1
        elif byte == QUOTE:
            end = string_end(text, at + 1)
            words.append((STRING, tuple(text[at + 1:end])))
            at = end + 1
        else:
            end = name_end(text, at)
            words.append((NAME, name_text(text[at:end])))
            at = end
    words.append((END, ""))
    return words


def name_end(text, start):
    """Where the name that begins at start has ended."""
    if not is_letter(text[start]):
        raise NoTale()
    end = start
    while end < len(text) and is_letter_or_digit(text[end]):
        end += 1
    if end - start > LONGEST_NAME:
        raise NoTale()
    return end


def name_text(row):
    return "".join([LETTERS[byte - LETTER_A] if is_letter(byte) else DIGITS[byte - DIGIT_0] for byte in row])


def string_end(text, start):
    """Where the quote stands that ends the string whose first byte is at start."""
    end = start
    while end < len(text) and text[end] != QUOTE:
        if not BLANK <= text[end] <= LAST_BYTE:
            raise NoTale()
        end += 1
    if end == len(text) or end - start > LONGEST_STRING:
        raise NoTale()
    return end
