"""Contests: a list of sayings played against a defeat."""

from twolistings.books import shows_defeat
from twolistings.edits import check_game, is_at_list
from twolistings.errors import NoDefeat
from twolistings.pages import Page
from twolistings.positions import demanded, sayings, start, step, stopped


def _next_said(plan, position, left):
    """What is said with the next step; at a list this takes the last one of the sayings that are left."""
    if not is_at_list(plan, position):
        return None
    saying = left.pop() if left else "absent"
    return saying if saying in sayings(position) else "absent"


def contest(rules, plan, question, defeat, said):
    """The deeds that are done until a step is bad, and the archive that is written."""
    check_game(rules, plan, question)
    if not shows_defeat(rules, plan, question, defeat):
        raise NoDefeat()
    moves = {position: move for position, move in defeat}
    left = said[::-1]
    page = Page(rules[0])
    deeds = []
    here = start(rules)
    while here is not None:
        move = moves[here]
        if here[0] == "rest":
            here = demanded(here, move)
            deeds.append((move, 0))
        elif move == "stop":
            here = stopped(here)
        else:
            role, done = here[:2]
            saying = _next_said(plan, here, left)
            page.write(role, saying)
            deeds[-1] = (role, done + 1)
            here = step(rules, plan, question, here, saying)
    return deeds, page.as_archive()
