"""Two rules beside each other: whether they show the same in all archives, and what shows it either way."""

from twolistings.archives import Archive
from twolistings.closures import reached, route
from twolistings.errors import BadEvent
from twolistings.forms import is_between, is_integer, is_numbered, is_tuple_of, numbered
from twolistings.states import BEGINNING, after_event

# More heads than a joint state has entries: from here on, a list may always name an entry that is not in it.
MOST_SAID = 5
EMPTY_FILE = ("file", "")


def _entries(first, second):
    """The shown and the kept entries of two states."""
    return [*first[1:], *second[1:]]


def _joint(behind):
    """The joint state of two states and the number of heads behind which they are, whatever the entries are."""
    first, second, said = behind
    numbers = numbered(_entries(first, second))
    return (first[0], *numbers[:2]), (second[0], *numbers[2:]), min(said, MOST_SAID)


def _moved(one, other, behind, event, entry):
    """The two states and the number of heads after an event, the entries as they are handed in."""
    first, second, said = behind
    said = said + 1 if event == "head" else said
    return after_event(one, first, event, entry), after_event(other, second, event, entry), said


def _shows_same(behind):
    first, second, _ = behind
    return first[1] == second[1]


def first_joint():
    """The joint state of the beginning."""
    return BEGINNING, BEGINNING, 0


def _is_state(rule, value):
    """Whether a value is a tuple of a mode of a rule and two more values."""
    return is_tuple_of(value, 3) and is_between(value[0], 0, len(rule) - 1)


def is_joint(one, other, value):
    """Whether a value, of any value, has the form of a joint state of two rules."""
    if not is_tuple_of(value, 3):
        return False
    first, second, said = value
    if not _is_state(one, first) or not _is_state(other, second):
        return False
    entries = _entries(first, second)
    return is_numbered(entries) and is_between(said, max(entries), MOST_SAID)


def _events_at(joint):
    """The events that can come at a joint state, with its numbers for the entries."""
    first, second, said = joint
    # An entry that is not in the joint state, be it new or one of an earlier head, has the next number.
    new = max(_entries(first, second)) + 1
    events = [("head", new), ("strike", 0), ("other", 0), ("absent", 0)]
    if said > 0:
        events.append(("struck", 0))
    return events + [("named", entry) for entry in range(1, min(new, said) + 1)]


def joints_after(one, other, joint):
    """The ascending list of the different joint states after each event that can come at a joint state."""
    return sorted({_joint(_moved(one, other, joint, event, entry)) for event, entry in _events_at(joint)})


def alike(one, other):
    """("yes", table) if two rules show the same in all archives, else ("no", line) with a line that parts them."""
    rows = reached(first_joint(), lambda here: joints_after(one, other, here) if _shows_same(here) else [])
    for at, (joint, _) in enumerate(rows):
        if not _shows_same(joint):
            return "no", _line_along(one, other, route(rows, at))
    return "yes", [joint for joint, _ in rows]


def _events_behind(line):
    """The tuples that can stand next in a line."""
    named = [("named", entry) for event, entry in line if event == "head"]
    events = [("head", len(line) + 1), ("strike", 0), ("other", 0), ("absent", 0)]
    return [*events, ("struck", 0), *named] if named else events


def _line_along(one, other, joints):
    """A line on which such joint states come, the first one ahead of it and one after each of its events."""
    line = []
    behind = first_joint()
    for joint in joints[1:]:
        ways = [(event, _moved(one, other, behind, *event)) for event in _events_behind(line)]
        told, behind = [way for way in ways if _joint(way[1]) == joint][0]
        line.append(told)
    return line


def shows_alike(one, other, value):
    """Whether a value, of any value, is a table as alike tells it with "yes"."""
    if not isinstance(value, list) or not all([is_joint(one, other, joint) for joint in value]):
        return False
    table = set(value)
    if len(table) < len(value) or first_joint() not in table:
        return False
    if not all([_shows_same(joint) for joint in value]):
        return False
    return all([after in table for joint in value for after in joints_after(one, other, joint)])


def _is_event(value, number, heads):
    """Whether a value is a tuple of a line at the place with this number, behind heads with such numbers."""
    if not is_tuple_of(value, 2) or not is_integer(value[1]):
        return False
    event, entry = value
    if event == "head":
        return entry == number
    if event == "named":
        return entry in heads
    return entry == 0 and (event in ("strike", "other", "absent") or event == "struck" and len(heads) > 0)


def _first_wrong(line):
    """The number of the first element of a list that is no tuple of a line at this place, 0 if all are."""
    heads = {}
    for number, value in enumerate(line, start=1):
        if not _is_event(value, number, heads):
            return number
        if value[0] == "head":
            heads[number] = True
    return 0


def shows_parting(one, other, value):
    """Whether a value, of any value, is a line as alike tells it with "no"."""
    if not isinstance(value, list) or _first_wrong(value) > 0:
        return False
    behind = first_joint()
    for number, told in enumerate(value, start=1):
        behind = _moved(one, other, behind, *told)
        if not _shows_same(behind):
            return number == len(value)
    return False


def _as_record(told, number):
    """The record with this number in an archive with such a line of the name "a"."""
    event, entry = told
    if event == "head":
        return ("head", "a", EMPTY_FILE)
    if event == "other":
        return ("head", "b", EMPTY_FILE)
    if event == "strike":
        return ("strike", "a")
    if event == "absent":
        return ("list", ())
    return ("list", (("a", number - entry if event == "named" else 0),))


def archive_of(line):
    """An archive in which a line is the one of the name "a"."""
    if not isinstance(line, list):
        raise BadEvent(0)
    wrong = _first_wrong(line)
    if wrong > 0:
        raise BadEvent(wrong)
    return Archive([_as_record(told, number) for number, told in enumerate(line, start=1)])
