"""What the tests share: calls as numbers, answers by call, tales as data, and a second reckoning."""

import itertools
import random

from stillwon.desk import answers

SMALL = (
    'var door = shut open ;\n'
    'var key = table hand ;\n'
    'when "take key" if key is table do key is hand say "You have it." ;\n'
    'when "open door" if key is hand and door is shut do door is open say "It opens." ;\n'
    'won if door is open ;\n'
)


def read(text):
    row = list(text.encode("latin-1")) if isinstance(text, str) else list(text)
    return [0, len(row)] + row


def best(*numbers):
    row = list(numbers) + [0] * (24 - len(numbers))
    return [1, len(row)] + row


def look():
    return [2]


def stuck(k):
    return [3, k]


def state(*numbers):
    return list(numbers) + [0] * (24 - len(numbers))


def parted(told, count):
    """The answers of count calls, each a list, taken apart by the counts before them."""
    rows = []
    at = 0
    while at < len(told):
        size = told[at]
        if size < 1 or at + 1 + size > len(told):
            raise AssertionError(f"a wrong count at {at}: {told[at:at + 30]}")
        rows.append(told[at + 1:at + 1 + size])
        at += 1 + size
    if len(rows) != count:
        raise AssertionError(f"{count} calls, {len(rows)} answers")
    return rows


def ask(*calls):
    return parted(answers(list(itertools.chain.from_iterable(calls))), len(calls))


def asked_of(text, *calls):
    """The answers to calls behind a read that must be answered 0."""
    rows = ask(read(text), *calls)
    if rows[0] != [0]:
        raise AssertionError(f"read answered {rows[0]}")
    return rows[1:]


def verdict(text):
    """What a read alone is answered."""
    rows = ask(read(text))
    if len(rows[0]) != 1:
        raise AssertionError(f"read answered {rows[0]}")
    return rows[0][0]


def binary_tale(count):
    """Of count vars each may be set by a line of its own: all states can be come to."""
    rows = [f"var v{k} = a b ;" for k in range(count)]
    rows += [f'when "set {k}" do v{k} is b say "" ;' for k in range(count)]
    parts = [f"v{k} is b" for k in range(count)]
    rows += ["won if " + " and ".join(parts[:16]) + " ;"]
    return "\n".join(rows)


def counter_tale(more):
    """One line counts through 65,536 states, one behind another, and through one more if told so."""
    values = [f"d{k}" for k in range(16)]
    names = ["a", "b", "c", "d"]
    rows = [f"var {name} = {' '.join(values)} ;" for name in names]
    for place, name in enumerate(names):
        for k in range(15):
            full = [f"{low} is d15" for low in names[:place]]
            wrap = [f"{low} is d0" for low in names[:place]]
            condition = " and ".join(full + [f"{name} is d{k}"])
            change = " and ".join(wrap + [f"{name} is d{k + 1}"])
            rows.append(f'when "go" if {condition} do {change} say "" ;')
    last = " and ".join([f"{name} is d15" for name in names])
    if more:
        rows.insert(0, "var e = x y ;")
        rows.append(f'when "go" if {last} do e is y say "" ;')
        rows.append("won if e is y ;")
    else:
        rows.append(f"won if {last} ;")
    return "\n".join(rows)


class PlainTale:
    """A tale as data: conditions are lists of (var, verb, value), by numbers."""

    def __init__(self, sizes, whens, wons, losts):
        self.sizes = sizes
        self.whens = whens
        self.wons = wons
        self.losts = losts
        self.turns_known = {}
        self.order = self.states()

    def text(self):
        rows = [f"var n{k} = {' '.join(f'v{v}' for v in range(size))} ;" for k, size in enumerate(self.sizes)]
        for line, condition, change in self.whens:
            asked = f" if {parts_text(condition)}" if condition else ""
            done = f" do {parts_text([(k, 'is', v) for k, v in change])}" if change else ""
            rows.append(f'when "{line}"{asked}{done} say "So be it." ;')
        rows += [f"won if {parts_text(condition)} ;" for condition in self.wons]
        rows += [f"lost if {parts_text(condition)} ;" for condition in self.losts]
        return "\n".join(rows)

    def first(self):
        return (0,) * len(self.sizes)

    def standing(self, values):
        if any(holds(condition, values) for condition in self.losts):
            return "lost"
        if any(holds(condition, values) for condition in self.wons):
            return "won"
        return "on"

    def play(self, values, typed):
        """The when that is done where a line is typed, and where it leads; None if none is."""
        if self.standing(values) != "on":
            return None
        line = " ".join(typed.lower().split())
        for number, (string, condition, change) in enumerate(self.whens):
            if string == line and holds(condition, values):
                after = list(values)
                for k, v in change:
                    after[k] = v
                return number, tuple(after)
        return None

    def turns(self, values):
        """The turns from a state, by the numbers of the whens that are done."""
        if values not in self.turns_known:
            lines = {line for line, condition, change in self.whens}
            self.turns_known[values] = sorted(filter(None, [self.play(values, line) for line in lines]))
        return self.turns_known[values]

    def states(self):
        """All that can be come to, in order."""
        order = [self.first()]
        for values in order:
            for number, target in self.turns(values):
                if target not in order:
                    order.append(target)
        return order

    def fars(self):
        """How far each state is, by asking again and again till nothing changes; None for none."""
        order = self.order
        far = {values: 0 if self.standing(values) == "won" else None for values in order}
        changed = True
        while changed:
            changed = False
            for values in order:
                if self.standing(values) != "on":
                    continue
                known = [far[target] for number, target in self.turns(values) if far[target] is not None]
                now = min(known) + 1 if known else None
                if now != far[values]:
                    far[values] = now
                    changed = True
        return far


def parts_text(parts):
    return " and ".join(f"n{k} {verb} v{v}" for k, verb, v in parts)


def holds(condition, values):
    return all((values[k] == v) == (verb == "is") for k, verb, v in condition)


def chance_tale(seed):
    """A small tale, the same for the same seed; of three seeds two give tales with longer ways."""
    dice = random.Random(seed)
    long = seed % 3 != 0
    sizes = [dice.randint(2, 4) for k in range(dice.randint(3, 4) if long else dice.randint(1, 3))]
    free = dice.choice([0.0, 0.2, 0.5])
    lines = ["go", "go on", "look", "x 1 y", "turn left", "7", "up", "down"]
    lines = lines if long else lines[:dice.randint(1, 4)]

    def condition(most):
        picked = [dice.randrange(len(sizes)) for part in range(dice.randint(1, most))]
        return [(k, dice.choice(["is", "not"]), dice.randrange(sizes[k])) for k in picked]

    def end():
        picked = dice.sample(range(len(sizes)), 2 if long else dice.randint(1, len(sizes)))
        return [(k, "is", dice.randrange(1 if long else 0, sizes[k])) for k in picked]

    def change():
        picked = dice.sample(range(len(sizes)), dice.choice([1, 1, 1, 2]) if len(sizes) > 1 else 1)
        return [(k, dice.randrange(sizes[k])) for k in picked]

    whens = []
    for when in range(dice.randint(8, 20) if long else dice.randint(1, 12)):
        asked = [] if dice.random() < free else condition(2 if long else 3)
        done = [] if dice.random() < 0.1 else change()
        whens.append((dice.choice(lines), asked, done))
    wons = [end() for won in range(dice.randint(1, 2))]
    losts = [end() for lost in range(dice.choice([0, 0, 1, 2]))]
    return PlainTale(sizes, whens, wons, losts)
