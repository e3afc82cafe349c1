"""Points 2, 3 and 4: best, look and stuck, with each refusal and each corner that the document names."""

import unittest

from tests.helper import SMALL, asked_of, best, binary_tale, counter_tale, look, state, stuck, verdict

# From the hall a key may be dropped into the well (stuck), or the bridge crossed without it (lost).
CAVE = (
    'var place = hall well bridge gate out ;'
    'var key = held gone ;'
    'when "go well" if place is hall do place is well say "" ;'
    'when "go hall" if place is well do place is hall say "" ;'
    'when "drop key" if place is well and key is held do key is gone say "" ;'
    'when "go bridge" if place is hall do place is bridge say "" ;'
    'when "go gate" if place is bridge and key is held do place is gate say "" ;'
    'when "open gate" if place is gate do place is out say "" ;'
    'when "wait" say "" ;'
    'lost if place is bridge and key is gone ;'
    'won if place is out ;'
)


class Best(unittest.TestCase):
    def test_how_far_and_which(self):
        told = asked_of(SMALL, best(0, 0), best(0, 1), best(1, 1))
        self.assertEqual(told, [[2, 0], [1, 1], [0]])

    def test_cave(self):
        told = asked_of(CAVE, best(0, 0), best(1, 0), best(2, 0), best(3, 0), best(4, 0))
        self.assertEqual(told, [[3, 3], [4, 1], [2, 4], [1, 5], [0]])

    def test_stuck_or_lost(self):
        self.assertEqual(asked_of(CAVE, best(1, 1), best(0, 1), best(2, 1)), [[-1], [-1], [-1]])

    def test_no_state_that_can_be_come_to(self):
        told = asked_of(CAVE, best(3, 1), best(4, 1), best(5, 0), best(0, 2), best(255, 255), best(0, 0, 1))
        self.assertEqual(told, [[-2]] * 6)

    def test_each_number_behind_the_vars_must_be_0(self):
        for place in range(2, 24):
            for number in (1, 255):
                numbers = state(0, 0)
                numbers[place] = number
                self.assertEqual(asked_of(CAVE, best(*numbers)), [[-2]], place)

    def test_a_value_just_beyond_its_var_is_no_other_state(self):
        text = 'var a = x y ; var b = x y ; when "go" do b is y say "" ; won if b is y ;'
        self.assertEqual(asked_of(text, best(0, 0), best(0, 1), best(2, 0), best(3, 0)), [[1, 0], [0], [-2], [-2]])

    def test_all_24_vars_tell(self):
        rows = [f"var v{k} = x y ;" for k in range(24)]
        text = "".join(rows) + 'when "go" do v23 is y say "" ; won if v23 is y ;'
        last = [0] * 23 + [1]
        self.assertEqual(asked_of(text, best(*state()), best(*last), best(1)), [[1, 0], [0], [-2]])

    def test_the_least_when_of_several_as_near(self):
        text = (
            'var a = x y z w ;'
            'when "far" if a is x do a is w say "" ;'
            'when "b" if a is x do a is z say "" ;'
            'when "a" if a is x do a is y say "" ;'
            'when "end" if a is y do a is y say "" ;'
            'when "win" if a is w do a is x say "" ;'
            'won if a is z ; won if a is y ;'
        )
        self.assertEqual(asked_of(text, best(0), best(3)), [[1, 1], [2, 4]])

    def test_the_nearest_not_the_first(self):
        text = (
            'var a = x y z ;'
            'when "slow" if a is x do a is y say "" ;'
            'when "slow" if a is y do a is z say "" ;'
            'when "quick" if a is x do a is z say "" ;'
            'won if a is z ;'
        )
        self.assertEqual(asked_of(text, best(0), best(1)), [[1, 2], [1, 1]])

    def test_which_is_above_100(self):
        whens = "".join([f'when "wait {k}" say "" ;' for k in range(127)])
        text = "var a = x y ;" + whens + 'when "go" do a is y say "" ; won if a is y ;'
        self.assertEqual(asked_of(text, best(0)), [[1, 127]])


class Look(unittest.TestCase):
    def test_none_stuck(self):
        self.assertEqual(asked_of(SMALL, look()), [[1, 3, 1, 0, 0]])

    def test_some_stuck(self):
        self.assertEqual(asked_of(CAVE, look()), [[0, 8, 1, 1, 2]])

    def test_lost_comes_ahead_of_won(self):
        text = 'var a = x y ; when "go" do a is y say "" ; won if a is y ; lost if a is y ;'
        self.assertEqual(asked_of(text, look(), best(0), best(1), stuck(0)),
                         [[0, 2, 0, 1, 1], [-1], [-1], [0] + state(0)])

    def test_any_won_and_any_lost_will_do(self):
        text = (
            'var a = x p q r s ;'
            'when "p" do a is p say "" ; when "q" do a is q say "" ;'
            'when "r" do a is r say "" ; when "s" do a is s say "" ;'
            'won if a is p ; won if a is q ; lost if a is r ; lost if a is s ;'
        )
        self.assertEqual(asked_of(text, look(), best(1), best(2), best(3), best(4)),
                         [[1, 5, 2, 2, 0], [0], [0], [-1], [-1]])

    def test_not(self):
        text = 'var a = x y z ; when "go" if a not y do a is y say "" ; won if a not x and a not z ;'
        self.assertEqual(asked_of(text, look(), best(0), best(1)), [[1, 2, 1, 0, 0], [1, 0], [0]])

    def test_a_condition_against_itself_never_holds(self):
        for parts in ("a is x and a not x", "a is x and a is y", "a not x and a is x", "a not x and a not y"):
            text = f'var a = x y ; when "go" if {parts} do a is y say "" ; won if a is y ;'
            self.assertEqual(asked_of(text, look()), [[0, 1, 0, 0, 1]], parts)

    def test_lost_and_won_ones_go_no_further(self):
        text = (
            'var a = x y z ;'
            'when "die" if a is x do a is y say "" ;'
            'when "rise" if a is y do a is z say "" ;'
            'lost if a is y ; won if a is z ;'
        )
        self.assertEqual(asked_of(text, look(), best(2)), [[0, 2, 0, 1, 1], [-2]])


class Stuck(unittest.TestCase):
    def test_in_order(self):
        told = asked_of(CAVE, stuck(0), stuck(1), stuck(2), stuck(4294967295))
        self.assertEqual(told, [[0] + state(1, 1), [0] + state(0, 1), [-2], [-2]])

    def test_none(self):
        self.assertEqual(asked_of(SMALL, stuck(0), stuck(1)), [[-2], [-2]])

    def test_order_is_by_turns_of_states_one_behind_another(self):
        text = (
            'var a = s p q r t ;'
            'when "to q" if a is s do a is q say "" ;'
            'when "to p" if a is s do a is p say "" ;'
            'when "on" if a is p do a is t say "" ;'
            'when "on" if a is q do a is r say "" ;'
            'won if a is s and a is p ;'
        )
        told = asked_of(text, stuck(0), stuck(1), stuck(2), stuck(3), stuck(4), stuck(5))
        self.assertEqual(told, [[0] + state(k) for k in (0, 2, 1, 3, 4)] + [[-2]])

    def test_order_is_by_the_when_that_is_done_not_by_its_strings_first(self):
        text = (
            'var a = s p q w ;'
            'when "one" if a is w do a is s say "" ;'
            'when "two" if a is s do a is q say "" ;'
            'when "one" if a is s do a is p say "" ;'
            'won if a is w ;'
        )
        told = asked_of(text, stuck(0), stuck(1), stuck(2), stuck(3))
        self.assertEqual(told, [[0] + state(0), [0] + state(2), [0] + state(1), [-2]])

    def test_which_is_by_the_when_that_is_done(self):
        text = (
            'var a = s p q w ;'
            'when "one" if a is w do a is s say "" ;'
            'when "two" if a is s do a is q say "" ;'
            'when "one" if a is s do a is p say "" ;'
            'won if a is p ; won if a is q ;'
        )
        self.assertEqual(asked_of(text, best(0)), [[1, 1]])


class Corners(unittest.TestCase):
    def test_won_at_first(self):
        text = 'var a = x y ; when "go" do a is y say "" ; won if a is x ;'
        told = asked_of(text, look(), best(0), best(1), stuck(0))
        self.assertEqual(told, [[1, 1, 1, 0, 0], [0], [-2], [-2]])

    def test_lost_at_first(self):
        text = 'var a = x y ; when "go" do a is y say "" ; won if a is y ; lost if a is x ;'
        told = asked_of(text, look(), best(0), best(1), stuck(0))
        self.assertEqual(told, [[1, 1, 0, 1, 0], [-1], [-2], [-2]])

    def test_can_not_be_won(self):
        text = 'var a = x y z ; when "go" do a is y say "" ; won if a is z ;'
        told = asked_of(text, look(), best(0), best(1), best(2), stuck(0), stuck(1), stuck(2))
        self.assertEqual(told, [[0, 2, 0, 0, 2], [-1], [-1], [-2], [0] + state(0), [0] + state(1), [-2]])

    def test_turns_that_lead_back(self):
        text = (
            'var a = x y z ;'
            'when "on" if a is x do a is y say "" ;'
            'when "back" if a is y do a is x say "" ;'
            'when "on" if a is y do a is z say "" ;'
            'won if a is z ;'
        )
        self.assertEqual(asked_of(text, look(), best(0), best(1)), [[1, 3, 1, 0, 0], [2, 0], [1, 2]])

    def test_going_round_and_never_out(self):
        text = (
            'var a = x y z ;'
            'when "on" if a is x do a is y say "" ; when "on" if a is y do a is x say "" ;'
            'won if a is z ;'
        )
        self.assertEqual(asked_of(text, look(), stuck(1)), [[0, 2, 0, 0, 2], [0] + state(1)])

    def test_a_turn_that_changes_nothing(self):
        for wait in ('when "wait" say "" ;', 'when "wait" do a is x say "" ;', 'when "go" if a is y say "" ;'):
            text = "var a = x y ;" + wait + 'when "go" do a is y say "" ; won if a is y ;'
            self.assertEqual(asked_of(text, look(), best(0)), [[1, 2, 1, 0, 0], [1, 1]], wait)

    def test_only_turns_that_change_nothing(self):
        text = 'var a = x y ; when "wait" say "" ; won if a is y ;'
        self.assertEqual(asked_of(text, look(), best(0), stuck(0)), [[0, 1, 0, 0, 1], [-1], [0] + state(0)])

    def test_of_two_whens_of_one_string_the_first_that_can_be_done(self):
        text = (
            'var a = x y z ;'
            'when "go" if a is x do a is y say "" ;'
            'when "go" do a is z say "" ;'
            'won if a is z ;'
        )
        self.assertEqual(asked_of(text, look(), best(0), best(1)), [[1, 3, 1, 0, 0], [2, 0], [1, 1]])

    def test_a_second_when_of_one_string_that_is_never_done(self):
        text = (
            'var a = x y z ;'
            'when "go" do a is y say "" ;'
            'when "go" do a is z say "" ;'
            'won if a is z ;'
        )
        self.assertEqual(asked_of(text, look(), best(0), best(2)), [[0, 2, 0, 0, 2], [-1], [-2]])

    def test_strings_that_are_alike_in_part_are_two(self):
        text = (
            'var a = x y z ;'
            'when "go o" do a is y say "" ;'
            'when "goo" do a is z say "" ;'
            'won if a is z ;'
        )
        self.assertEqual(asked_of(text, look(), best(0)), [[1, 3, 1, 0, 0], [1, 1]])

    def test_a_way_through_a_won_state(self):
        text = (
            'var a = x y z ;'
            'when "on" if a is x do a is y say "" ;'
            'when "on" if a is y do a is z say "" ;'
            'won if a is y ; won if a is z ;'
        )
        self.assertEqual(asked_of(text, look(), best(0), best(1), best(2)), [[1, 2, 1, 0, 0], [1, 0], [0], [-2]])

    def test_65536_states_just(self):
        every = [1] * 16
        told = asked_of(binary_tale(16), look(), best(0), best(*every), best(0, *every[1:]))
        self.assertEqual(told, [[1, 65536, 1, 0, 0], [16, 0], [0], [1, 0]])

    def test_65536_states_one_behind_another(self):
        told = asked_of(counter_tale(False), look(), best(0, 0, 0, 0), best(14, 15, 15, 15), best(15, 15, 15, 14))
        self.assertEqual(told, [[1, 65536, 1, 0, 0], [65535, 0], [1, 14], [4096, 59]])

    def test_65537_states(self):
        self.assertEqual(verdict(counter_tale(True)), -28)

    def test_65536_stuck_states(self):
        text = binary_tale(16).partition("won")[0] + "won if v0 is a and v0 is b ;"
        told = asked_of(text, look(), stuck(0), stuck(1), stuck(65535), stuck(65536))
        self.assertEqual(told, [[0, 65536, 0, 0, 65536], [0] + state(), [0] + state(1), [0] + state(*[1] * 16), [-2]])
