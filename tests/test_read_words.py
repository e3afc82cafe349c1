"""Point 1, the words of a tale's text: bytes, names, strings, signs, and how long each may be."""

import unittest

from tests.helper import SMALL, asked_of, best, look, verdict

LETTERS = [ord(sign) for sign in "abcdefghijklmnopqrstuvwxyz"]
DIGITS = [ord(sign) for sign in "0123456789"]


def name_tale(name):
    return f'var {name} = x y ; when "go" do {name} is y say "" ; won if {name} is y ;'


def value_tale(value):
    return f'var a = x {value} ; when "go" do a is {value} say "" ; won if a is {value} ;'


def say_tale(string):
    return f'var a = x y ; when "go" do a is y say "{string}" ; won if a is y ;'


def show_tale(string):
    return f'var a = x y ; when "go" do a is y say "" ; show "{string}" ; won if a is y ;'


def line_tale(line):
    return f'var a = x y ; when "{line}" do a is y say "" ; won if a is y ;'


class TextLength(unittest.TestCase):
    def test_longest_text(self):
        self.assertEqual(verdict(SMALL.ljust(24576)), 0)
        self.assertEqual(verdict(SMALL.rjust(24576, "\n")), 0)

    def test_one_byte_too_long(self):
        self.assertEqual(verdict(SMALL.ljust(24577)), -22)

    def test_far_too_long(self):
        self.assertEqual(verdict(SMALL.ljust(29000)), -22)

    def test_too_long_is_told_ahead_of_no_tale(self):
        self.assertEqual(verdict([0] * 24577), -22)
        self.assertEqual(verdict([0] * 24576), -71)

    def test_empty(self):
        self.assertEqual(verdict(""), -71)
        self.assertEqual(verdict(" \n "), -71)


class Bytes(unittest.TestCase):
    def test_each_byte_behind_a_sentence(self):
        for byte in range(256):
            row = list(SMALL.encode()) + [byte]
            self.assertEqual(verdict(row), 0 if byte in (10, 32) else -71, byte)

    def test_each_byte_ahead_of_the_text(self):
        for byte in range(256):
            row = [byte] + list(SMALL.encode())
            self.assertEqual(verdict(row), 0 if byte in (10, 32) else -71, byte)

    def test_each_byte_between_a_name_and_a_sign(self):
        ahead, behind = b"var a = x y", b'; when "go" do a is x say "" ; won if a is x ;'
        for byte in range(256):
            good = byte in (10, 32) or byte in LETTERS or byte in DIGITS
            self.assertEqual(verdict(list(ahead) + [byte] + list(behind)), 0 if good else -71, byte)

    def test_each_byte_in_a_string(self):
        for byte in range(256):
            good = 32 <= byte <= 126 and byte != 34
            self.assertEqual(verdict(say_tale("<" + chr(byte) + ">")), 0 if good else -71, byte)
            self.assertEqual(verdict(show_tale("<" + chr(byte) + ">")), 0 if good else -71, byte)

    def test_each_byte_in_what_is_typed(self):
        for byte in range(256):
            good = byte == 32 or byte in LETTERS or byte in DIGITS
            self.assertEqual(verdict(line_tale("a" + chr(byte) + "b")), 0 if good else -71, byte)


class Blanks(unittest.TestCase):
    def test_none_where_nothing_is_to_be_parted(self):
        self.assertEqual(verdict('var a=x y;when"go"if a is x do a is y say"";show"s"if a is y;won if a is y;'), 0)

    def test_many(self):
        self.assertEqual(verdict(SMALL.replace(" ;", "\n \n ;\n\n").replace("=", "\n=\n")), 0)

    def test_say_nothing_else(self):
        words = SMALL.replace("\n", " ")
        calls = [look(), best(0, 0), best(0, 1), best(1, 1)]
        self.assertEqual(asked_of(words, *calls), asked_of(SMALL, *calls))
        self.assertEqual(asked_of(words, *calls)[0], [1, 3, 1, 0, 0])

    def test_words_run_together_are_one_name(self):
        self.assertEqual(verdict(SMALL.replace("var door", "vardoor")), -71)
        self.assertEqual(verdict(SMALL.replace("door is open", "dooris open")), -71)
        self.assertEqual(verdict(SMALL.replace("won if", "wonif")), -71)


class Names(unittest.TestCase):
    def test_lengths(self):
        for tale in (name_tale, value_tale):
            self.assertEqual(verdict(tale("n")), 0)
            self.assertEqual(verdict(tale("n" * 12)), 0)
            self.assertEqual(verdict(tale("a23456789012")), 0)
            self.assertEqual(verdict(tale("n" * 13)), -71)
            self.assertEqual(verdict(tale("a234567890123")), -71)
            self.assertEqual(verdict(tale("n" * 24)), -71)

    def test_signs(self):
        for tale in (name_tale, value_tale):
            self.assertEqual(verdict(tale("z09a")), 0)
            for name in ("1a", "7", "A", "aB", "a_b", "a-b", '"a"', ""):
                self.assertEqual(verdict(tale(name)), -71, name)

    def test_names_that_are_alike_in_part_are_different(self):
        text = 'var a = x y ; var a1 = x y ; var b1 = x y ; when "go" do a1 is y say "" ; won if a1 is y ;'
        self.assertEqual(asked_of(text, best(0, 0, 0), best(0, 1, 0), best(1, 0, 0)), [[1, 0], [0], [-2]])


class Strings(unittest.TestCase):
    def test_lengths(self):
        for tale in (say_tale, show_tale):
            self.assertEqual(verdict(tale("")), 0)
            self.assertEqual(verdict(tale("~" * 255)), 0)
            self.assertEqual(verdict(tale("~" * 256)), -71)

    def test_no_end(self):
        self.assertEqual(verdict(SMALL + 'show "'), -71)
        self.assertEqual(verdict(SMALL + 'show "told ;'), -71)
        self.assertEqual(verdict(SMALL + 'show "told'), -71)

    def test_what_it_holds_is_no_sentence(self):
        self.assertEqual(verdict(say_tale("; won if = say var 1A")), 0)

    def test_a_string_is_no_word(self):
        self.assertEqual(verdict(SMALL.replace("won", '"won"')), -71)
        self.assertEqual(verdict(SMALL.replace(" and ", ' "and" ')), -71)
        self.assertEqual(verdict(SMALL.replace("= shut open ;", '= shut open ";"')), -71)


class Typed(unittest.TestCase):
    def test_lengths(self):
        self.assertEqual(verdict(line_tale("a")), 0)
        self.assertEqual(verdict(line_tale("a" * 40)), 0)
        self.assertEqual(verdict(line_tale("a b " * 9 + "a bc")), 0)
        self.assertEqual(verdict(line_tale("")), -71)
        self.assertEqual(verdict(line_tale("a" * 41)), -71)
        self.assertEqual(verdict(line_tale("a b " * 9 + "a bcd")), -71)

    def test_blanks(self):
        self.assertEqual(verdict(line_tale("1 two 3")), 0)
        for line in (" ", " a", "a ", "a  b", "a b  c d", "a b "):
            self.assertEqual(verdict(line_tale(line)), -71, line)
