"""The positions of a name, and how demands, steps and stops lead from one to another."""

from twolistings.checks import check_plan, check_question, check_rules
from twolistings.errors import BadPosition, BadSaying, Parted
from twolistings.forms import is_between, is_numbered, is_tuple_of, numbered
from twolistings.readers import Sight
from twolistings.states import after_event

ROLES = ("rest", "put", "strike", "other", "mend")


def _signs(plan, role):
    """The signs of the steps of an edit; a mend writes one list, whatever the plan is."""
    return "L" if role == "mend" else plan


def _entries(shown, newest, readers):
    return [shown, newest] + [kept for _, kept in readers]


def _position(role, done, shown, newest, readers):
    """The position with these entries, whatever they are, replaced by numbers."""
    numbers = numbered(_entries(shown, newest, readers))
    modes = [mode for mode, _ in readers]
    return role, done, numbers[0], numbers[1], tuple(zip(modes, numbers[2:]))


def start(rules):
    """The position of a name in an archive without records."""
    check_rules(rules)
    return "rest", 0, 0, 0, tuple([(0, 0) for _ in rules])


def _are_readers(rules, value):
    """Whether a value is a tuple with a tuple of a mode and one more value for each rule."""
    if not is_tuple_of(value, len(rules)) or not all([is_tuple_of(reader, 2) for reader in value]):
        return False
    return all([is_between(reader[0], 0, len(rule) - 1) for rule, reader in zip(rules, value)])


def _is_done(plan, role, done):
    """Whether a value is a number of steps of an edit that leaves it at one of its steps, 0 at rest."""
    return is_between(done, 0, 0 if role == "rest" else len(_signs(plan, role)) - 1)


def _has_form(rules, plan, value):
    """Whether a value, of any value, has the form of a position, for rules and a plan that are some."""
    if not is_tuple_of(value, 5):
        return False
    role, done, shown, newest, readers = value
    if role not in ROLES or not _is_done(plan, role, done) or not _are_readers(rules, readers):
        return False
    entries = _entries(shown, newest, readers)
    if not is_numbered(entries):
        return False
    if newest > 0:
        return True
    # A put whose own record is written has a head of the name behind it.
    return max(entries) == 0 and not (role == "put" and "E" in plan[:done])


def is_position(rules, plan, value):
    """Whether a value, of any value, has the form of a position."""
    check_rules(rules)
    check_plan(plan)
    return _has_form(rules, plan, value)


def position_of(rules, archive, name):
    """The position at rest of a name in an archive."""
    check_rules(rules)
    sights = [Sight(rule) for rule in rules]
    for event, entry in archive.line(name):
        for sight in sights:
            sight.see(event, entry)
    shown = sights[0].shown
    if any([sight.shown != shown for sight in sights]):
        raise Parted(name)
    newest = max(archive.heads_of(name), default=0)
    return _position("rest", 0, shown, newest, [(sight.mode, sight.kept) for sight in sights])


def demanded(position, role):
    """The position after a demand, from one at rest."""
    return (role, 0, *position[2:])


def stopped(position):
    """The position after a stop, from one in an edit of which a step is done."""
    return ("rest", 0, *position[2:])


def sayings(position):
    """The tuple of the sayings that are allowed for the name."""
    _, _, shown, newest, _ = position
    if newest == 0:
        return ("absent",)
    return ("absent", "struck", "shown", "newest") if shown > 0 else ("absent", "struck", "newest")


def _is_due(plan, position, saying):
    """Whether a saying, of any value, goes with the next step: None with the own record, an allowed one with a list."""
    if _signs(plan, position[0])[position[1]] == "E":
        return saying is None
    return saying in sayings(position)


def _event(sign, position, saying):
    """What the next step is in the line of the name."""
    role, _, shown, newest, readers = position
    if sign == "E" and role == "put":
        return "head", max(_entries(shown, newest, readers)) + 1
    if sign == "E":
        # The own record of a strike and of another's edit is an event of the same word.
        return role, 0
    if saying in ("shown", "newest"):
        return "named", shown if saying == "shown" else newest
    return saying, 0


def _is_bad(plan, question, position, shown, newest):
    """Whether the step from a position is bad that leaves all readers with this shown entry."""
    role, done, before = position[:3]
    signs = _signs(plan, role)
    if question == "same":
        return False
    if done + 1 == len(signs) and (role == "put" and shown != newest or role == "strike" and shown > 0):
        return True
    if question == "done" or shown == before:
        return False
    if role == "put":
        return shown != newest or "E" not in signs[:done + 1]
    return role != "strike" or shown > 0


def _moved(rules, plan, question, position, saying):
    """The position after the next step, None if the step is bad, for arguments that are known to be right."""
    role, done, shown, newest, readers = position
    signs = _signs(plan, role)
    event, entry = _event(signs[done], position, saying)
    newest = entry if event == "head" else newest
    states = [after_event(rule, (mode, shown, kept), event, entry) for rule, (mode, kept) in zip(rules, readers)]
    shown = states[0][1]
    if any([state[1] != shown for state in states]) or _is_bad(plan, question, position, shown, newest):
        return None
    readers = [(mode, kept) for mode, _, kept in states]
    if done + 1 == len(signs):
        return _position("rest", 0, shown, newest, readers)
    return _position(role, done + 1, shown, newest, readers)


def step(rules, plan, question, position, saying=None):
    """The position after the next step of an edit, None if the step is bad."""
    check_rules(rules)
    check_plan(plan)
    check_question(question)
    if not _has_form(rules, plan, position) or position[0] == "rest":
        raise BadPosition()
    if not _is_due(plan, position, saying):
        raise BadSaying(saying)
    return _moved(rules, plan, question, position, saying)
