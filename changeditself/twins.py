"""Twins of acts, and acts that turn and have none."""

from changeditself.house import Act


def is_twin(act, other):
    """Whether the other one, at the same place, is a twin of the act."""
    plain = other.turn == 0 and other.locks == 0
    return plain and other.pays == act.pays and other.weights == act.weights


def is_lonely(act, acts):
    """Whether the act turns and has no twin among the acts at its place."""
    return act.turn != 0 and not any([is_twin(act, other) for other in acts])


def twin_of(act):
    return Act(act.pays, act.weights, 0, 0)


def lonely_acts(house):
    """The place and the number of each lonely act, one behind another."""
    found = []
    for place, acts in enumerate(house.acts):
        for number, act in enumerate(acts):
            if is_lonely(act, acts):
                found.append(place)
                found.append(number)
    return found
