"""Deeds: how many steps are done of which edits, one after the other, and the ways of positions that they are."""

from twolistings.edits import DEMANDS, signs_of
from twolistings.forms import is_between, is_tuple_of


def is_deed(plan, value):
    """Whether a value, of any value, is a tuple of a demand and of how many of its steps are done."""
    if not is_tuple_of(value, 2) or value[0] not in DEMANDS:
        return False
    return is_between(value[1], 1, len(signs_of(plan, value[0])))


def first_no_deed(plan, deeds):
    """The place of the first element of a list that is no deed, -1 if all are."""
    for at, value in enumerate(deeds):
        if not is_deed(plan, value):
            return at
    return -1


def steps_of(deeds):
    """All steps of deeds: the list of (at, role, done), with the place of the deed and the steps of it ahead."""
    return [(at, role, done) for at, (role, steps) in enumerate(deeds) for done in range(steps)]


def rested(position):
    """The position, looked at as at rest."""
    return ("rest", 0, *position[2:])


def deeds_along(places):
    """The deeds on a way of places, tuples of a position and more; where it ends in an edit, one step more is done."""
    deeds = []
    for here, after in zip(places, [*places[1:], None]):
        role, done = here[0][:2]
        # A stop changes nothing else; a step that changes as little may be taken for one.
        if done > 0 and after == (rested(here[0]), *here[1:]):
            deeds.append((role, done))
        elif role != "rest" and (after is None or after[0][0] == "rest"):
            deeds.append((role, done + 1))
    return deeds
