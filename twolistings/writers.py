"""Writers: whether what one says at each position is a book, and the archives that it writes."""

from twolistings.books import shows_book
from twolistings.checks import check_plan, check_rules
from twolistings.closures import reached, route
from twolistings.deeds import deeds_along, first_no_deed, rested, steps_of
from twolistings.edits import SAYINGS, check_game, is_at_list
from twolistings.errors import BadDeed, BadWriter
from twolistings.forms import is_tuple_of
from twolistings.games import afters
from twolistings.pages import Page
from twolistings.positions import demanded, is_position, sayings, start, step


def _words_of(rules, plan, writer):
    """The dict from each position of a writer to its saying; raises BadWriter if a value, of any value, is none."""
    if not isinstance(writer, list):
        raise BadWriter(0)
    words = {}
    for at, value in enumerate(writer):
        if not is_tuple_of(value, 2) or not is_position(rules, plan, value[0]):
            raise BadWriter(at)
        position, saying = value
        if saying not in SAYINGS or position in words:
            raise BadWriter(at)
        words[position] = saying
    return words


def _said(plan, words, position):
    """What a writer says with the next step; None where no list is next."""
    if not is_at_list(plan, position):
        return None
    saying = words.get(position, "absent")
    return saying if saying in sayings(position) else "absent"


def _sayings_at(plan, words, position):
    """The sayings of a row of a writer's book."""
    return (_said(plan, words, position),) if is_at_list(plan, position) else ()


def judged(rules, plan, question, writer):
    """("yes", book) with the book of a writer's sayings, else ("no", deeds) that end with its first bad step."""
    check_game(rules, plan, question)
    words = _words_of(rules, plan, writer)

    def ways(at):
        return afters(rules, plan, question, at, _sayings_at(plan, words, at))

    rows = reached(start(rules), lambda at: [after for after in ways(at) if after is not None])
    for number, (here, _) in enumerate(rows):
        if None in ways(here):
            return "no", deeds_along([(place,) for place in route(rows, number)])
    return "yes", [(here, _sayings_at(plan, words, here)) for here, _ in rows]


def shows_kept(rules, plan, question, writer, value):
    """Whether a value, of any value, is the book of a writer's sayings."""
    check_game(rules, plan, question)
    words = _words_of(rules, plan, writer)
    if not shows_book(rules, plan, question, value):
        return False
    return all([told == _sayings_at(plan, words, position) for position, told in value])


def shows_broken(rules, plan, question, writer, value):
    """Whether a value, of any value, is deeds of which, with a writer's sayings, the last step alone is bad."""
    check_game(rules, plan, question)
    words = _words_of(rules, plan, writer)
    if not isinstance(value, list) or first_no_deed(plan, value) >= 0:
        return False
    steps = steps_of(value)
    here = start(rules)
    for number, (_, role, done) in enumerate(steps, start=1):
        here = here if done else demanded(rested(here), role)
        here = step(rules, plan, question, here, _said(plan, words, here))
        if here is None:
            return number == len(steps)
    return False


def _check_deeds(plan, deeds):
    """Raises BadDeed if a value, of any value, is no list of deeds."""
    if not isinstance(deeds, list):
        raise BadDeed(0)
    wrong = first_no_deed(plan, deeds)
    if wrong >= 0:
        raise BadDeed(wrong)


def written(rules, plan, writer, deeds):
    """The archive that a writer's sayings and deeds give, written on the names "a" and "b"."""
    check_rules(rules)
    check_plan(plan)
    words = _words_of(rules, plan, writer)
    _check_deeds(plan, deeds)
    page = Page(rules[0])
    here = start(rules)
    for at, role, done in steps_of(deeds):
        # Behind a step after which the readers part there is no position to say anything at.
        if here is None:
            raise BadDeed(at)
        here = here if done else demanded(rested(here), role)
        saying = _said(plan, words, here)
        page.write(role, saying)
        here = step(rules, plan, "same", here, saying)
    return page.as_archive()
