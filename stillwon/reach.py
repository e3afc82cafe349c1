"""All that a tale can come to, and how far each state is."""

from stillwon.refusals import NeverWon, NoSuchState, TooManyStates
from stillwon.tale import GOES_ON, LOST, WON, standing, state_numbers, state_told, turns_from, when_done

MOST_STATES = 65536


class Reach:
    """The states that can be come to, in order; a rank is a place in that order."""

    def __init__(self, tale):
        self.tale = tale
        self.order = [tale.first]
        self.ranks = {tale.first: 0}
        self.standings = []
        self.fars = []
        self.stuck_ones = []

    def far(self, state):
        """How far a state is, None if it isn't any."""
        return self.fars[self.ranks[state]]

    def best(self, numbers):
        """How far the state that numbers tell is and, unless it is won, the when to do."""
        state = state_told(self.tale, numbers)
        if state not in self.ranks:
            raise NoSuchState()
        far = self.far(state)
        if far is None:
            raise NeverWon()
        if far == 0:
            return [0]
        return [far, self.best_when(state, far)]

    def best_when(self, state, far):
        """The least number of a when that leads one nearer."""
        turns = turns_from(self.tale, state)
        nearer = [line for line, target in turns.items() if self.far(target) == far - 1]
        return when_done(self.tale, state, nearer[0])

    def look(self):
        """Whether none is stuck; how many states there are, won, lost and stuck ones."""
        stuck = len(self.stuck_ones)
        none_stuck = 1 if stuck == 0 else 0
        return [none_stuck, len(self.order), self.standings.count(WON), self.standings.count(LOST), stuck]

    def stuck(self, place):
        """The numbers of the stuck state at a place among the stuck ones."""
        if place >= len(self.stuck_ones):
            raise NoSuchState()
        return state_numbers(self.tale, self.stuck_ones[place])


def explore(tale):
    """Goes through all that a tale can come to."""
    reach = Reach(tale)
    sources = [[]]
    rank = 0
    while rank < len(reach.order):
        state_standing = standing(tale, reach.order[rank])
        reach.standings.append(state_standing)
        if state_standing == GOES_ON:
            add_turns(reach, sources, rank)
        rank += 1
    reach.fars = measured(reach.standings, sources)
    reach.stuck_ones = stuck_states(reach)
    return reach


def add_turns(reach, sources, rank):
    """Puts what is new behind the order, and notes the rank as a source of each turn's end."""
    order = reach.order
    ranks = reach.ranks
    turns = turns_from(reach.tale, order[rank])
    for target in turns.values():
        if target in ranks:
            sources[ranks[target]].append(rank)
        elif len(order) == MOST_STATES:
            raise TooManyStates()
        else:
            ranks[target] = len(order)
            order.append(target)
            sources.append([rank])


def measured(standings, sources):
    """How far each state is, None for those that aren't any.

    It is gone backwards from all won states at once, so whatever is come to
    first is come to in the fewest turns.
    """
    queue = [rank for rank, state_standing in enumerate(standings) if state_standing == WON]
    fars = [0 if state_standing == WON else None for state_standing in standings]
    at = 0
    while at < len(queue):
        rank = queue[at]
        for source in sources[rank]:
            if fars[source] is None:
                fars[source] = fars[rank] + 1
                queue.append(source)
        at += 1
    return fars


def stuck_states(reach):
    stuck_ones = []
    for state, state_standing, far in zip(reach.order, reach.standings, reach.fars):
        if state_standing == GOES_ON and far is None:
            stuck_ones.append(state)
    return stuck_ones
