"""The house: its places, selves and acts, how the helper stands, what it did, and what is promised.

A stand is a tuple: the place, the self, and 1 if it is locked, else 0.
A promise is a tuple: its kind, then by whose lights, of which self, at which place, with how many steps, and how much
at least; 0 for what its kind hasn't.
"""

MOST_ACTS = 3
MOST_STEPS = 4
MOST_ENTRIES = 16
MOST_PROMISES = 4


class Act:
    """An act; its turn is told as in the calls: 0, or one more than the self that it turns into."""

    def __init__(self, pays, weights, turn, locks):
        self.pays = pays
        self.weights = weights
        self.turn = turn
        self.locks = locks


class Entry:
    """An act that was done; its pays are kept here, for the act may be taken out later."""

    def __init__(self, number, steps, before, behind, pays):
        self.number = number
        self.steps = steps
        self.before = before
        self.behind = behind
        self.pays = pays


class House:
    """It has no places until a begin is answered 0."""

    def __init__(self):
        self.places = 0
        self.selves = 0
        self.acts = []
        self.stand = (0, 0, 0)
        self.log = []
        self.promises = []


def furnish(house, places, selves):
    """Make all new: what the house had is gone."""
    house.places = places
    house.selves = selves
    house.acts = [[] for place in range(places)]
    house.stand = (0, 0, 0)
    house.log = []
    house.promises = []


def is_begun(house):
    return house.places > 0


def has_place(house, place):
    return place < house.places


def has_self(house, who):
    return who < house.selves


def has_act(house, place, number):
    return has_place(house, place) and number < len(house.acts[place])


def may_go(steps):
    """Whether it may go with so many steps left."""
    return 1 <= steps <= MOST_STEPS


def stand_behind(act, stand, place):
    """How one stands behind an act that was done standing so, and that led to the place."""
    who = stand[1]
    if act.turn != 0 and stand[2] == 0:
        who = act.turn - 1
    return (place, who, max(stand[2], act.locks))
