"""Point 1, the sentences of a tale's text, how many there may be, and the refusals of read."""

import itertools
import unittest

from tests.helper import SMALL, ask, asked_of, best, binary_tale, look, read, stuck, verdict

PLAIN = 'var a = x y z ; when "go" do a is y say "" ; won if a is y ;'


def with_parts(sentence, count, verb="is"):
    """A tale of 24 vars whose sentence has count parts."""
    rows = [f"var v{k} = x y ;" for k in range(24)]
    parts = " and ".join([f"v{k} {verb} y" for k in range(count)])
    rows.append(sentence.replace("PARTS", parts))
    rows.append('when "go" say "" ; won if v0 is y ;')
    return "\n".join(rows)


class Counts(unittest.TestCase):
    def test_vars(self):
        tail = 'when "go" do v0 is y say "" ; won if v0 is y ;'
        for count, due in ((1, 0), (24, 0), (25, -71)):
            head = "".join([f"var v{k} = x y ;" for k in range(count)])
            self.assertEqual(verdict(head + tail), due, count)

    def test_no_var(self):
        self.assertEqual(verdict('when "go" say "" ;'), -71)
        self.assertEqual(verdict('when "go" say "" ; won if a is x ;'), -71)

    def test_values(self):
        for count, due in ((0, -71), (1, -71), (2, 0), (16, 0), (17, -71)):
            values = " ".join([f"x{k}" for k in range(count)])
            text = f'var b = x0 x1 ; var a = {values} ; when "go" say "" ; won if b is x1 ;'
            self.assertEqual(verdict(text), due, count)

    def test_whens(self):
        for count, due in ((0, -71), (1, 0), (128, 0), (129, -71)):
            whens = "".join([f'when "go {k}" say "" ;' for k in range(count)])
            self.assertEqual(verdict("var a = x y ;" + whens + "won if a is y ;"), due, count)

    def test_whens_of_one_string_count_each(self):
        for count, due in ((128, 0), (129, -71)):
            self.assertEqual(verdict("var a = x y ;" + 'when "go" say "" ;' * count + "won if a is y ;"), due)

    def test_shows(self):
        for count, due in ((0, 0), (1, 0), (64, 0), (65, -71)):
            self.assertEqual(verdict(PLAIN + 'show "a" ;' * count), due, count)

    def test_wons(self):
        head = 'var a = x y ; when "go" say "" ;'
        for count, due in ((0, -71), (1, 0), (16, 0), (17, -71)):
            self.assertEqual(verdict(head + "won if a is y ;" * count), due, count)

    def test_losts(self):
        for count, due in ((0, 0), (1, 0), (16, 0), (17, -71)):
            self.assertEqual(verdict(PLAIN + "lost if a is z ;" * count), due, count)

    def test_parts(self):
        sentences = ("won if PARTS ;", "lost if PARTS ;", 'show "" if PARTS ;',
                     'when "a" if PARTS say "" ;', 'when "a" do PARTS say "" ;')
        for sentence in sentences:
            for count, due in ((0, -71), (1, 0), (16, 0), (17, -71)):
                self.assertEqual(verdict(with_parts(sentence, count)), due, (sentence, count))

    def test_parts_with_not(self):
        for count, due in ((16, 0), (17, -71)):
            self.assertEqual(verdict(with_parts("lost if PARTS ;", count, "not")), due)

    def test_parts_of_one_name_count_each(self):
        for count, due in ((16, 0), (17, -71)):
            self.assertEqual(verdict(PLAIN + "lost if " + " and ".join(["a is z"] * count) + ";"), due)


class Vars(unittest.TestCase):
    def test_a_name_twice(self):
        self.assertEqual(verdict("var a = x y ;" + PLAIN), -71)
        self.assertEqual(verdict("var a = p q ;" + PLAIN), -71)

    def test_a_value_twice(self):
        self.assertEqual(verdict(PLAIN.replace("x y z", "x y x")), -71)
        self.assertEqual(verdict(PLAIN.replace("x y z", "x y y z")), -71)

    def test_two_vars_may_have_the_same_values(self):
        self.assertEqual(verdict("var b = z y x ;" + PLAIN), 0)

    def test_a_value_may_be_called_like_a_var(self):
        self.assertEqual(verdict('var a = a b ; var b = b a ; when "go" do a is b say "" ; won if a is b ;'), 0)

    def test_names_kept_back(self):
        for name in ("var", "when", "show", "won", "lost", "if", "do", "say", "is", "not", "and"):
            text = f'var {name} = x y ; when "go" do {name} is y say "" ; won if {name} is y ;'
            self.assertEqual(verdict(text), -71, name)
            self.assertEqual(verdict(f"var {name} = x y ;" + PLAIN), -71, name)
            self.assertEqual(verdict(f"var {name}s = x y ;" + PLAIN), 0, name)

    def test_only_names_of_vars_are_kept_back(self):
        for value in ("var", "when", "show", "won", "lost", "if", "do", "say", "is", "not", "and"):
            text = f'var a = x {value} ; when "go" if a not {value} do a is {value} say "" ;' \
                   f'won if a is {value} and a is {value} ;'
            self.assertEqual(asked_of(text, best(0), best(1)), [[1, 0], [0]], value)

    def test_a_value_that_is_none(self):
        for part in ("a is w", "a not w", "a is a", "b is x", "x is a", "b not x", "is is x", "a is p"):
            head = "var c = p q ;" + PLAIN
            self.assertEqual(verdict(head + f"lost if {part} ;"), -71, part)
            self.assertEqual(verdict(head + f'show "" if {part} ;'), -71, part)
            self.assertEqual(verdict(head + f'when "b" if {part} say "" ;'), -71, part)
            self.assertEqual(verdict(head + f'when "b" do {part} say "" ;'), -71, part)


class Order(unittest.TestCase):
    def test_any_order_behind_the_vars(self):
        rows = ['when "go" if a is x do a is y say "" ;', 'when "back" if a is y do a is z say "" ;',
                'won if a is z ;', 'lost if b is q ;', 'show "here" if a is y ;']
        for order in itertools.permutations(rows):
            text = "var a = x y z ; var b = p q ;" + "".join(order)
            turned = order.index(rows[0]) > order.index(rows[1])
            told = asked_of(text, look(), best(0, 0), best(1, 0))
            self.assertEqual(told, [[1, 3, 1, 0, 0], [2, int(turned)], [1, int(not turned)]])

    def test_a_var_behind_another_sentence(self):
        for sentence in ('when "go" say "" ;', 'show "" ;', 'won if a is y ;', 'lost if a is z ;'):
            tail = PLAIN.partition(";")[2]
            self.assertEqual(verdict("var a = x y z ; var b = x y ;" + sentence + tail), 0, sentence)
            self.assertEqual(verdict("var a = x y z ;" + sentence + "var b = x y ;" + tail), -71, sentence)
            self.assertEqual(verdict(sentence + PLAIN), -71, sentence)
        self.assertEqual(verdict(PLAIN + "var b = x y ;"), -71)


class Sentences(unittest.TestCase):
    def test_if_and_do_may_be_missing(self):
        for sentence in ('when "a" say "" ;', 'when "a" if a is x say "" ;', 'when "a" do a is x say "" ;',
                         'when "a" if a is x do a is y say "" ;', 'show "" ;', 'show "" if a is x ;'):
            self.assertEqual(verdict(PLAIN + sentence), 0, sentence)

    def test_no_sentence(self):
        wrong = (
            ";", "=", '"a"', "a", "a ;", "a is x ;", "if a is x ;", "when ;", "when", "show ;", "won ;", "lost ;",
            'when "a" ;', 'when "a" say ;', 'when "a" say "" "" ;', 'when "a" "b" say "" ;', 'when a say "" ;',
            'when say "" ;', 'when "a" say b ;', 'when "a" say "" if a is x ;', 'when "a" say "" do a is x ;',
            'when "a" do a is y if a is x say "" ;', 'when "a" if say "" ;', 'when "a" do say "" ;',
            'when "a" if a is x if a is x say "" ;', 'when "a" do a is x do a is y say "" ;',
            'when "a" if a is x do say "" ;', 'when "a" if do a is x say "" ;', 'when "a" a is x say "" ;',
            'when "a" if a is x and say "" ;', 'when "a" if and a is x say "" ;', 'when "a" if a is x a is x say "" ;',
            'when "a" if a is x and and a is x say "" ;', 'when "a" if a is x or a is y say "" ;',
            'when "a" do a is x and say "" ;', 'when "a" do a say "" ;', 'when "a" do a is say "" ;',
            'when "a" if a = x say "" ;', 'when "a" do a = x say "" ;', 'when = "a" say "" ;',
            'show a ;', 'show "a" "b" ;', 'show "a" if ;', 'show if a is x ;', 'show "a" do a is x ;',
            'show "a" a is x ;', 'show "a" say "b" ;', 'show "a" if a is "x" ;', 'show "a" if a is x and ;',
            "won a is x ;", "won if ;", "won if a ;", "won if a is ;", "won if a x ;", "won if a is not x ;",
            "won if not a is x ;", "won if a is x y ;", "won if a is x and ;", "won if a is x and y ;",
            'won "a" if a is x ;', "won if a is x", "won if a is x = ;", "won if if a is x ;", "won if a is x ; ;",
            "lost a is x ;", "lost if ;", "lost if a ;", "lost if a is ;", "lost if a is x and ;", "lost ;",
            "lose if a is x ;", "wins if a is x ;", "Won if a is x ;",
        )
        for sentence in wrong:
            self.assertEqual(verdict(PLAIN + sentence), -71, sentence)

    def test_no_var_sentence(self):
        wrong = (
            "var ;", "var b ;", "var b = ;", "var = x y ;", "var b x y ;", "var b = = x y ;", "var b = x = y ;",
            "var b = x y", 'var "b" = x y ;', 'var b = "x" y ;', "var b c = x y ;", "var b = x and y and x ;",
            "var b = x y ; ;", "b = x y ;", "var var b = x y ;", "var b is x y ;", "var b = 1 2 ;",
        )
        for sentence in wrong:
            self.assertEqual(verdict(sentence + PLAIN), -71, sentence)

    def test_every_beginning_of_a_text(self):
        whole = 'var a = x y ; when "g" if a is x do a is y say "s" ; show "t" if a is x ; won if a is y ;'
        self.assertEqual(verdict(whole), 0)
        for size in range(len(whole)):
            self.assertEqual(verdict(whole[:size]), -71, whole[:size])

    def test_a_text_that_ends_within_a_sentence(self):
        further = ' when "b" if a is x do a is y say "s" ;'
        ends = [size for size in range(1, len(further)) if further[:size].strip()]
        for size in ends:
            self.assertEqual(verdict(PLAIN + further[:size]), -71, further[:size])
        self.assertEqual(verdict(PLAIN + further), 0)


class Changes(unittest.TestCase):
    def test_a_name_twice(self):
        head = "var b = x y ;" + PLAIN
        self.assertEqual(verdict(head + 'when "b" do a is x and b is x say "" ;'), 0)
        self.assertEqual(verdict(head + 'when "b" do a is x and a is y say "" ;'), -71)
        self.assertEqual(verdict(head + 'when "b" do a is x and a is x say "" ;'), -71)
        self.assertEqual(verdict(head + 'when "b" do a is x and b is y and a is x say "" ;'), -71)

    def test_not(self):
        self.assertEqual(verdict(PLAIN + 'when "b" do a not x say "" ;'), -71)
        self.assertEqual(verdict("var b = x y ;" + PLAIN + 'when "b" do a is x and b not x say "" ;'), -71)

    def test_a_condition_may_have_a_name_twice(self):
        for parts in ("a is x and a is x", "a is x and a is y", "a not x and a not y", "a is x and a not x"):
            for sentence in (f"lost if {parts} ;", f'show "" if {parts} ;', f'when "b" if {parts} say "" ;'):
                self.assertEqual(verdict("var b = x y ;" + PLAIN + sentence), 0, sentence)


class Refusals(unittest.TestCase):
    def test_too_many_states(self):
        self.assertEqual(verdict(binary_tale(16)), 0)
        self.assertEqual(verdict(binary_tale(17)), -28)

    def test_no_tale_is_told_ahead_of_too_many_states(self):
        self.assertEqual(verdict(binary_tale(17) + ";"), -71)

    def test_only_what_can_be_come_to_counts(self):
        rows = [f"var v{k} = {' '.join([f'x{v}' for v in range(16)])} ;" for k in range(24)]
        text = "".join(rows) + 'when "go" do v0 is x1 say "" ; won if v0 is x1 ;'
        self.assertEqual(asked_of(text, look()), [[1, 2, 1, 0, 0]])

    def test_a_refused_read_leaves_the_object_as_it_was(self):
        calls = [look(), best(0, 0), best(0, 1), best(1, 1), best(1, 0), stuck(0)]
        due = [[1, 3, 1, 0, 0], [2, 0], [1, 1], [0], [-2], [-2]]
        for text, number in (([65] * 24577, -22), (SMALL.ljust(25000), -22), ("", -71), (SMALL + ";", -71),
                             (SMALL.replace("open ;", "ajar ;"), -71), (binary_tale(17), -28)):
            told = ask(read(SMALL), read(text), *calls)
            self.assertEqual(told, [[0], [number]] + due)

    def test_refused_reads_ahead_of_the_first_good_one(self):
        told = ask(read(""), read([32] * 24577), read(binary_tale(17)), read(SMALL), look())
        self.assertEqual(told, [[-71], [-22], [-28], [0], [1, 3, 1, 0, 0]])

    def test_a_read_that_comes_again(self):
        other = 'var a = x y ; when "go" do a is y say "" ; won if a is x and a is y ;'
        told = ask(read(SMALL), look(), read(other), look(), best(1), stuck(1), best(0, 1), read(SMALL), look(),
                   best(0, 1))
        self.assertEqual(told, [[0], [1, 3, 1, 0, 0], [0], [0, 2, 0, 0, 2], [-1], [0, 1] + [0] * 23, [-2], [0],
                                [1, 3, 1, 0, 0], [1, 1]])
