"""Books and defeats: what a list may say of a name at each position, or how each writer is beaten."""

from twolistings.edits import check_game, is_at_list
from twolistings.forms import is_tuple_of
from twolistings.games import afters, defeat_of, graph_of, greatest, led, lost_in, moves_at
from twolistings.positions import is_position, sayings, start


def verdict(rules, plan, question):
    """("yes", book) if there is a book, else ("no", defeat)."""
    check_game(rules, plan, question)
    graph = graph_of(rules, plan, question)
    lost = lost_in(graph)
    first = start(rules)
    if first in lost:
        return "no", defeat_of(graph, lost, first)
    return "yes", greatest(rules, plan, question, lost)


def met(rules, plan, question):
    """The list of the positions to which demands, stops and steps that are not bad lead from the start."""
    check_game(rules, plan, question)
    return list(graph_of(rules, plan, question))


def beaten(rules, plan, question):
    """Warnings with a row for each beaten position, and no others."""
    check_game(rules, plan, question)
    return list(lost_in(graph_of(rules, plan, question)).items())


def _is_row(rules, plan, value):
    """Whether a value is a tuple of a position and sayings of its own, in their order; none where no list is next."""
    if not is_tuple_of(value, 2) or not is_position(rules, plan, value[0]) or not isinstance(value[1], tuple):
        return False
    position, told = value
    if not is_at_list(plan, position):
        return told == ()
    return told != () and told == tuple([word for word in sayings(position) if word in told])


def shows_book(rules, plan, question, value):
    """Whether a value, of any value, is a book."""
    check_game(rules, plan, question)
    if not isinstance(value, list) or not all([_is_row(rules, plan, row) for row in value]):
        return False
    come = {start(rules)}
    for position, told in value:
        if position not in come:
            return False
        for after in afters(rules, plan, question, position, told):
            if after is None:
                return False
            come.add(after)
    # Each row has come, so there are as many rows as have come exactly if each of these has a row.
    return len(value) == len(come) == len({position for position, _ in value})


def shows_warnings(rules, plan, question, value):
    """Whether a value, of any value, is a list of warnings."""
    check_game(rules, plan, question)
    if not isinstance(value, list):
        return False
    earlier = set()
    for row in value:
        if not is_tuple_of(row, 2) or not is_position(rules, plan, row[0]):
            return False
        position, move = row
        if position in earlier or move not in moves_at(position):
            return False
        if not all([after in earlier for after in led(rules, plan, question, position, move)]):
            return False
        earlier.add(position)
    return True


def shows_defeat(rules, plan, question, value):
    """Whether a value, of any value, is a defeat."""
    if not shows_warnings(rules, plan, question, value):
        return False
    return start(rules) in [position for position, _ in value]
