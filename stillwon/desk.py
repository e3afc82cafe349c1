"""The calls on one object, read from one list of numbers and answered into another."""

from stillwon.grammar import tale_of
from stillwon.reach import explore
from stillwon.refusals import NeverWon, NoSuchState, NoTale, TextTooLong, TooManyStates

READ = 0
BEST = 1
LOOK = 2
STUCK = 3


class Desk:
    """The object that the calls are on: it keeps the tale that was read last."""

    def __init__(self):
        self.reach = None

    def read(self, text):
        try:
            self.reach = explore(tale_of(text))
        except TextTooLong:
            return [-22]
        except NoTale:
            return [-71]
        except TooManyStates:
            return [-28]
        return [0]

    def tell_best(self, numbers):
        try:
            return self.reach.best(numbers)
        except NoSuchState:
            return [-2]
        except NeverWon:
            return [-1]

    def tell_look(self):
        return self.reach.look()

    def tell_stuck(self, place):
        try:
            return [0] + self.reach.stuck(place)
        except NoSuchState:
            return [-2]


def answers(calls):
    """For each call, in order: how many numbers are answered, then these."""
    desk = Desk()
    told = []
    at = 0
    while at < len(calls):
        end = call_end(calls, at)
        answer = answer_one(desk, calls[at:end])
        told.append(len(answer))
        told.extend(answer)
        at = end
    return told


def call_end(calls, start):
    """Where the call that begins at start has ended."""
    kind = calls[start]
    if kind == LOOK:
        return start + 1
    if kind == STUCK:
        return start + 2
    return start + 2 + calls[start + 1]


def answer_one(desk, call):
    kind = call[0]
    if kind == READ:
        return desk.read(call[2:])
    if kind == BEST:
        return desk.tell_best(call[2:])
    if kind == LOOK:
        return desk.tell_look()
    return desk.tell_stuck(call[1])
