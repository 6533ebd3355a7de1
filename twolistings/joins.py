"""Joins: whether archives that are written by one book may be put behind each other."""

from twolistings.archives import events_of
from twolistings.books import shows_book
from twolistings.closures import reached, route
from twolistings.deeds import deeds_along, first_no_deed, rested, steps_of
from twolistings.edits import DEMANDS, check_game, signs_of
from twolistings.errors import NoBook
from twolistings.forms import is_numbered, is_tuple_of, numbered
from twolistings.games import afters
from twolistings.pages import record_of
from twolistings.positions import demanded, is_position, start, step
from twolistings.tails import entries_of, tail_after, with_entries


def _words_of(rules, plan, question, book):
    """The dict from each position of a book to its sayings; raises NoBook if it is none with at most one a row."""
    check_game(rules, plan, question)
    if not shows_book(rules, plan, question, book) or not all([len(told) <= 1 for _, told in book]):
        raise NoBook()
    return {position: told for position, told in book}


def _said(words, position):
    """What the book says at a position; None where no list is next."""
    return words[position][0] if words[position] else None


def _at_rest(tail):
    """The position at rest of the whole."""
    return ("rest", 0, *with_entries(tail, numbered(entries_of(tail))))


def _first_pairs(rules, words):
    """The pairs with which the second archive begins, one for each row of the book at rest."""
    return [(start(rules), *position[2:]) for position in words if position[0] == "rest"]


def _stepped(rules, plan, words, pair):
    """The pair after the next step of the second archive; None if joins do not keep to the book."""
    position, *whole = pair
    role, done, shown, newest, _ = position
    number = max(entries_of(position[2:]) + entries_of(whole)) + 1
    record = record_of(role, _said(words, position), number, shown, newest)
    events, rest = events_of(record, number)
    event, entry = events.get("a", rest)
    own = tail_after(rules, position[2:], event, entry)
    whole = tail_after(rules, whole, event, entry)
    if whole is None or _at_rest(whole) not in words:
        return None
    numbers = numbered(entries_of(own) + entries_of(whole))
    many = len(rules) + 2
    is_last = done + 1 == len(signs_of(plan, role))
    edit = ("rest", 0) if is_last else (role, done + 1)
    position = (*edit, *with_entries(own, numbers[:many]))
    return position, *with_entries(whole, numbers[many:])


def _pairs_after(rules, plan, words, pair):
    """What comes from a pair by demands, stops and steps; None stands for a step after which joins do not keep."""
    position, *whole = pair
    if position[0] == "rest":
        return [(demanded(position, role), *whole) for role in DEMANDS]
    after = _stepped(rules, plan, words, pair)
    return [after, (rested(position), *whole)] if position[1] > 0 else [after]


def _deeds_to(rules, plan, question, words, end):
    """Deeds with the book's sayings that lead to one of its positions at rest."""
    rows = reached(start(rules), lambda at: afters(rules, plan, question, at, words[at]))
    number = [at for at, (position, _) in enumerate(rows) if position == end][0]
    return deeds_along([(position,) for position in route(rows, number)])


def joins_keep(rules, plan, question, book):
    """("yes", pairs) if joins keep to a book, else ("no", deeds, deeds)."""
    words = _words_of(rules, plan, question, book)

    def ways(pair):
        # The empty tuple stands ahead of all pairs.
        return _pairs_after(rules, plan, words, pair) if pair else _first_pairs(rules, words)

    rows = reached((), lambda at: [after for after in ways(at) if after is not None])
    for number, (pair, _) in enumerate(rows):
        if None in ways(pair):
            _, *pairs = route(rows, number)
            ahead = _deeds_to(rules, plan, question, words, ("rest", 0, *pairs[0][1:]))
            return "no", ahead, deeds_along(pairs)
    return "yes", [pair for pair, _ in rows[1:]]


def _is_pair(rules, plan, words, value):
    """Whether a value, of any value, has the form of a pair in which the whole at rest has a row."""
    if not is_tuple_of(value, 4) or not is_position(rules, plan, value[0]) or value[0] not in words:
        return False
    position, *whole = value
    if not is_tuple_of(whole[2], len(rules)) or not all([is_tuple_of(reader, 2) for reader in whole[2]]):
        return False
    if not is_numbered(entries_of(position[2:]) + entries_of(whole)):
        return False
    return is_position(rules, plan, _at_rest(whole)) and _at_rest(whole) in words


def shows_joins(rules, plan, question, book, value):
    """Whether a value, of any value, is a list of pairs as joins_keep tells it with "yes"."""
    words = _words_of(rules, plan, question, book)
    if not isinstance(value, list) or not all([_is_pair(rules, plan, words, pair) for pair in value]):
        return False
    pairs = set(value)
    if len(pairs) < len(value) or not all([pair in pairs for pair in _first_pairs(rules, words)]):
        return False
    return all([after in pairs for pair in value for after in _pairs_after(rules, plan, words, pair)])


def shows_unjoined(rules, plan, question, book, first, second):
    """Whether two values, of any values, are deeds as joins_keep tells them with "no"."""
    words = _words_of(rules, plan, question, book)
    for deeds in (first, second):
        if not isinstance(deeds, list) or first_no_deed(plan, deeds) >= 0:
            return False
    here = start(rules)
    for _, role, done in steps_of(first):
        here = here if done else demanded(rested(here), role)
        here = step(rules, plan, question, here, _said(words, here))
    pair = (start(rules), *rested(here)[2:])
    steps = steps_of(second)
    for number, (_, role, done) in enumerate(steps, start=1):
        if done == 0:
            pair = (demanded(rested(pair[0]), role), *pair[1:])
        pair = _stepped(rules, plan, words, pair)
        if pair is None:
            return number == len(steps)
    return False
