"""The rules by which readers go: what a reader does at each event in the line of a name."""

from twolistings.errors import BadModes, BadRow, NoPlace

EVENTS = ("head", "strike", "other", "named", "struck", "absent")
LETTERS = {
    "head": ("s", "k", "o", "n"),
    "strike": ("s", "k", "o"),
    "other": ("s", "k", "o"),
    "named": ("s", "k", "o", "x"),
    "struck": ("s", "k", "o"),
    "absent": ("s", "k", "o"),
}
SIGNS = ("==", "!=")
MOST_MODES = 3
MOST_ROWS = 4
MOST_CONDITIONS = 2


def _is_number_below(value, end):
    """Whether a value is an integer from 0 to below end; True and False are none."""
    return isinstance(value, int) and not isinstance(value, bool) and 0 <= value < end


def _is_tuple_of(value, size):
    return isinstance(value, tuple) and len(value) == size


def _is_list_of(value, least, most):
    return isinstance(value, list) and least <= len(value) <= most


def _is_place(value, modes):
    """Whether a value is a tuple of the number of one of so many modes and an event."""
    return _is_tuple_of(value, 2) and _is_number_below(value[0], modes) and value[1] in EVENTS


def _is_condition(value, letters):
    return _is_tuple_of(value, 3) and value[0] in letters and value[1] in SIGNS and value[2] in letters


def _are_conditions(value, letters):
    if not isinstance(value, tuple) or len(value) > MOST_CONDITIONS:
        return False
    return all([_is_condition(condition, letters) for condition in value])


def _is_row(value, letters, modes):
    """Whether a value is a row with these letters, in a rule of so many modes."""
    if not _is_tuple_of(value, 4):
        return False
    conditions, mode, shown, kept = value
    if not _is_number_below(mode, modes):
        return False
    return _are_conditions(conditions, letters) and shown in letters and kept in letters


def _are_modes(value):
    """Whether a value has the form of modes, whatever stands for the rows."""
    if not _is_list_of(value, 1, MOST_MODES):
        return False
    if not all([_is_list_of(mode, len(EVENTS), len(EVENTS)) for mode in value]):
        return False
    return all([_is_list_of(rows, 0, MOST_ROWS) for mode in value for rows in mode])


def _check_modes(modes):
    # The form of the whole comes first: BadModes is due ahead of every BadRow.
    if not _are_modes(modes):
        raise BadModes()
    for number, mode in enumerate(modes):
        for event, rows in zip(EVENTS, mode):
            for at, row in enumerate(rows):
                if not _is_row(row, LETTERS[event], len(modes)):
                    raise BadRow((number, event, at))


def _all_hold(conditions, entries):
    return all([(entries[x] == entries[y]) == (sign == "==") for x, sign, y in conditions])


def _mode(told):
    """A mode with the rows of a dict from events, and no others."""
    return [list(told.get(event, [])) for event in EVENTS]


class Rule:
    """What a reader does: for each of its modes and each event, the rows of which the first that holds is used."""

    def __init__(self, modes):
        _check_modes(modes)
        self._modes = tuple([tuple([tuple(rows) for rows in mode]) for mode in modes])

    @property
    def modes(self):
        """A list with an element for each mode: a list of six lists of rows, in the order of the events."""
        return [[list(rows) for rows in mode] for mode in self._modes]

    def __len__(self):
        return len(self._modes)

    # Without this, Python would look for the rows of place 0, 1 and so on, which are no places.
    def __iter__(self):
        raise TypeError("a rule is not iterated over")

    def __getitem__(self, at):
        """The list of the rows at a place, a tuple of the number of a mode and an event."""
        if not _is_place(at, len(self._modes)):
            raise NoPlace(at)
        mode, event = at
        return list(self._modes[mode][EVENTS.index(event)])

    def __call__(self, mode, event, entries):
        """The row that is used for the entries of the letters, behind its number; both as a tuple."""
        rows = self[(mode, event)]
        for at, row in enumerate(rows):
            if _all_hold(row[0], entries):
                return at, row
        return len(rows), ((), mode, "s", "k")

    def __eq__(self, other):
        return isinstance(other, Rule) and self._modes == other._modes

    def changed(self, mode, event, rows):
        """The rule that has this list of rows at a place, and else is like this one."""
        if not _is_place((mode, event), len(self._modes)):
            raise NoPlace((mode, event))
        modes = self.modes
        modes[mode][EVENTS.index(event)] = rows
        return Rule(modes)

    @staticmethod
    def heads():
        """The rule that goes by heads and strikes from the front."""
        return Rule([_mode({
            "head": [((), 0, "n", "k")],
            "strike": [((), 0, "o", "k")],
        })])

    @staticmethod
    def last_list():
        """The rule that trusts the last list alone."""
        return Rule([_mode({
            "named": [((), 0, "x", "k")],
            "struck": [((), 0, "o", "k")],
            "absent": [((), 0, "o", "k")],
        })])

    @staticmethod
    def all_lists():
        """The rule that takes all lists together."""
        return Rule([_mode({
            "named": [((), 0, "x", "k")],
            "struck": [((), 0, "o", "k")],
        })])

    @staticmethod
    def waiting():
        """The rule that keeps what heads and strikes say, and shows it from the next list on."""
        shows = [((), 0, "k", "k")]
        return Rule([_mode({
            "head": [((), 0, "s", "n")],
            "strike": [((), 0, "s", "o")],
            "named": shows,
            "struck": shows,
            "absent": shows,
        })])

    @staticmethod
    def checking():
        """The rule that takes from a list what the last head or strike has said, too."""
        return Rule([_mode({
            "head": [((), 0, "s", "n")],
            "strike": [((), 0, "s", "o")],
            "named": [((("x", "==", "k"),), 0, "x", "k")],
            "struck": [((("k", "==", "o"),), 0, "o", "k")],
        })])

    @staticmethod
    def twice():
        """The rule that takes from a list what the one that spoke of the name before it has said, too."""
        return Rule([_mode({
            "named": [((("x", "==", "k"),), 0, "x", "k"), ((), 0, "s", "x")],
            "struck": [((("k", "==", "o"),), 0, "o", "o"), ((), 0, "s", "o")],
        })])

    @staticmethod
    def primed():
        """The rule that keeps what a head or strike says only where a list stands right ahead of it."""
        lists = {
            "named": [((("x", "==", "k"),), 1, "x", "k"), ((), 1, "s", "k")],
            "struck": [((("k", "==", "o"),), 1, "o", "k"), ((), 1, "s", "k")],
            "absent": [((), 1, "s", "k")],
        }
        records = {
            "head": [((), 0, "s", "n")],
            "strike": [((), 0, "s", "o")],
            "other": [((), 0, "s", "k")],
        }
        return Rule([_mode(lists), _mode({**lists, **records})])
