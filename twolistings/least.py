"""The least plan, the greatest book, and books that say as little as possible."""

from twolistings.books import shows_book, shows_defeat, shows_warnings, verdict
from twolistings.checks import check_question, check_rules
from twolistings.edits import check_game, is_at_list
from twolistings.errors import NoBook
from twolistings.forms import is_tuple_of
from twolistings.games import book_by, graph_of, greatest, lost_in, safe_words
from twolistings.positions import start, step

# The plans among which the least one is looked for, in their order.
PLANS = ("E", "EL", "LE", "ELL", "LEL", "LLE")


def least_plan(rules, question):
    """("yes", plan, book, defeats) with the first plan that has a book, else ("no", defeats)."""
    check_rules(rules)
    check_question(question)
    defeats = []
    for plan in PLANS:
        word, paper = verdict(rules, plan, question)
        if word == "yes":
            return "yes", plan, paper, defeats
        defeats.append(paper)
    return "no", defeats


def _lost_without_start(rules, plan, question):
    """The beaten positions with their moves; raises NoBook if the start is among them."""
    check_game(rules, plan, question)
    lost = lost_in(graph_of(rules, plan, question))
    if start(rules) in lost:
        raise NoBook()
    return lost


def greatest_book(rules, plan, question):
    """The book in which the rows and the sayings of all books are."""
    lost = _lost_without_start(rules, plan, question)
    return greatest(rules, plan, question, lost)


def thin_book(rules, plan, question):
    """A book with one saying a row, "absent" wherever it can be, and the warnings that tell where it cannot."""
    lost = _lost_without_start(rules, plan, question)
    book = book_by(rules, plan, question, lambda at: safe_words(rules, plan, question, lost, at)[:1])
    return book, list(lost.items())


def _are_defeats(rules, plans, question, value):
    """Whether a value is a list of a defeat for each of these plans, in their order."""
    if not isinstance(value, list) or len(value) != len(plans):
        return False
    return all([shows_defeat(rules, plan, question, defeat) for plan, defeat in zip(plans, value)])


def shows_least(rules, question, value):
    """Whether a value, of any value, is such a tuple as least_plan tells."""
    check_rules(rules)
    check_question(question)
    if is_tuple_of(value, 2):
        return value[0] == "no" and _are_defeats(rules, PLANS, question, value[1])
    if not is_tuple_of(value, 4) or value[0] != "yes" or value[1] not in PLANS:
        return False
    _, plan, book, defeats = value
    ahead = PLANS[:PLANS.index(plan)]
    return shows_book(rules, plan, question, book) and _are_defeats(rules, ahead, question, defeats)


def shows_thin(rules, plan, question, value):
    """Whether a value, of any value, is a tuple of a thin book and its warnings."""
    check_game(rules, plan, question)
    if not is_tuple_of(value, 2):
        return False
    book, warnings = value
    if not shows_book(rules, plan, question, book) or not shows_warnings(rules, plan, question, warnings):
        return False
    warned = {position for position, _ in warnings}
    for position, told in book:
        if is_at_list(plan, position):
            silent = step(rules, plan, question, position, "absent")
            # A saying is one alone; one that is not "absent" is there only where silence is bad or warned of.
            if len(told) > 1 or told[0] != "absent" and silent is not None and silent not in warned:
                return False
    return True
