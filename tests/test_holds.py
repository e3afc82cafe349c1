"""Point 5: what best, look and stuck tell, against a second reckoning over small tales."""

import itertools
import unittest

from tests.helper import asked_of, best, chance_tale, look, read, ask, state, stuck

TALES = [chance_tale(seed) for seed in range(400)]


def told_best(tale, order):
    """What best answers of each state, as a dict."""
    return dict(zip(order, asked_of(tale.text(), *[best(*values) for values in order])))


def crooked(line):
    """A line as somebody may type it: other letters, other blanks."""
    return "  " + line.upper().replace(" ", "   ") + " "


class SecondReckoning(unittest.TestCase):
    def test_best(self):
        for seed, tale in enumerate(TALES):
            far = tale.fars()
            every = list(itertools.product(*[range(size + 1) for size in tale.sizes]))
            told = told_best(tale, every)
            for values in every:
                self.assertEqual(told[values], self.due_best(tale, far, values), (seed, values))

    def due_best(self, tale, far, values):
        if values not in far:
            return [-2]
        if far[values] is None:
            return [-1]
        if far[values] == 0:
            return [0]
        nearer = [number for number, target in tale.turns(values) if far[target] == far[values] - 1]
        return [far[values], min(nearer)]

    def test_look(self):
        for seed, tale in enumerate(TALES):
            far = tale.fars()
            standings = [tale.standing(values) for values in far]
            none_far = [values for values in far if tale.standing(values) == "on" and far[values] is None]
            due = [int(not none_far), len(far), standings.count("won"), standings.count("lost"), len(none_far)]
            self.assertEqual(asked_of(tale.text(), look()), [due], seed)

    def test_stuck(self):
        for seed, tale in enumerate(TALES):
            far = tale.fars()
            rows = [values for values in tale.order if tale.standing(values) == "on" and far[values] is None]
            calls = [stuck(k) for k in range(len(rows) + 1)]
            due = [[0] + state(*values) for values in rows] + [[-2]]
            self.assertEqual(asked_of(tale.text(), *calls), due, seed)

    def test_several_tales_on_one_object(self):
        for start in range(0, len(TALES), 8):
            tales = TALES[start:start + 8]
            calls = list(itertools.chain.from_iterable([[read(tale.text()), look()] for tale in tales]))
            due = list(itertools.chain.from_iterable([[[0]] + asked_of(tale.text(), look()) for tale in tales]))
            self.assertEqual(ask(*calls), due)


class WhatHolds(unittest.TestCase):
    def test_who_follows_best_wins_in_just_as_many_turns(self):
        followed = 0
        for tale in TALES:
            told = told_best(tale, tale.order)
            for values in tale.order:
                if told[values][0] > 0:
                    self.follow(tale, told, values)
                    followed += 1
        self.assertGreater(followed, 500)

    def follow(self, tale, told, values):
        turns = told[values][0]
        for turn in range(turns):
            self.assertEqual(tale.standing(values), "on")
            number = told[values][1]
            done = tale.play(values, crooked(tale.whens[number][0]))
            self.assertEqual(done[0], number)
            values = done[1]
        self.assertEqual(tale.standing(values), "won")

    def test_nobody_wins_in_fewer(self):
        for tale in TALES:
            told = told_best(tale, tale.order)
            for values in tale.order:
                if told[values][0] >= 0:
                    self.assertFalse(self.won_within(tale, values, told[values][0] - 1))

    def won_within(self, tale, values, turns):
        """Whether some won state is come to in at most so many turns."""
        front = {values} if turns >= 0 else set()
        for turn in range(max(turns, 0)):
            front |= {target for here in front for number, target in tale.turns(here)}
        return any(tale.standing(here) == "won" for here in front)

    def test_from_a_stuck_state_it_is_never_won(self):
        seen = 0
        for tale in TALES:
            count = asked_of(tale.text(), look())[0][4]
            for row in asked_of(tale.text(), *[stuck(k) for k in range(count)]):
                values = tuple(row[1:1 + len(tale.sizes)])
                self.assertEqual(tale.standing(values), "on")
                self.assertFalse(self.won_within(tale, values, len(tale.order)))
                seen += 1
        self.assertGreater(seen, 200)

    def test_if_none_is_stuck_it_can_be_won_from_every_state_that_goes_on(self):
        seen = 0
        for tale in TALES:
            if asked_of(tale.text(), look())[0][0] == 1:
                going = [values for values in tale.order if tale.standing(values) == "on"]
                for values in going:
                    self.assertTrue(self.won_within(tale, values, len(tale.order)))
                    seen += 1
        self.assertGreater(seen, 100)
