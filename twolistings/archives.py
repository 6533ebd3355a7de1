"""Names, things, and archives: what their records are, and what each record is for a name."""

from twolistings.errors import BadRecord, NoRecord
from twolistings.forms import is_between, is_tuple_of

MOST_IN_NAME = 60
MOST_PARTS = 8
MOST_IN_TEXT = 200
NO_PARTS = ("", ".", "..")


def _is_text(value, most):
    """Whether a value is a string of at most so many characters, all from the space to the tilde."""
    if not isinstance(value, str) or len(value) > most:
        return False
    return all([" " <= letter <= "~" for letter in value])


def is_name(value):
    """Whether a value, of any value, is a name: one to eight parts with "/" between them."""
    if not _is_text(value, MOST_IN_NAME):
        return False
    parts = value.split("/")
    return len(parts) <= MOST_PARTS and all([part not in NO_PARTS for part in parts])


def is_thing(value):
    """Whether a value, of any value, is a thing: a folder, a file or a link."""
    if is_tuple_of(value, 1):
        return value[0] == "folder"
    if not is_tuple_of(value, 2):
        return False
    kind, told = value
    if kind == "file":
        return _is_text(told, MOST_IN_TEXT)
    return kind == "link" and is_name(told)


def _is_item(item, number, records, names):
    """Whether an item can stand in the list with this number, behind heads of these names."""
    if not is_tuple_of(item, 2):
        return False
    name, back = item
    if not isinstance(name, str) or name not in names or not is_between(back, 0, number - 1):
        return False
    return back == 0 or records[number - back - 1][:2] == ("head", name)


def _are_items(items, number, records, names):
    if not isinstance(items, tuple) or not all([_is_item(item, number, records, names) for item in items]):
        return False
    return all([one[0] < other[0] for one, other in zip(items, items[1:])])


def _can_stand(record, number, records, names):
    """Whether a value is a record that can have this number: behind records, with heads of these names."""
    if is_tuple_of(record, 3):
        kind, name, thing = record
        return kind == "head" and is_name(name) and is_thing(thing)
    if not is_tuple_of(record, 2):
        return False
    kind, told = record
    if kind == "strike":
        return is_name(told)
    return kind == "list" and _are_items(told, number, records, names)


def events_of(record, number):
    """What a record with this number is: a dict of this for the names that it speaks of, and for all other names."""
    kind, told = record[:2]
    if kind == "head":
        return {told: ("head", number)}, ("other", 0)
    if kind == "strike":
        return {told: ("strike", 0)}, ("other", 0)
    return {name: ("named", number - back) if back else ("struck", 0) for name, back in told}, ("absent", 0)


class Archive:
    """A list of records, numbered from 1, each of which can stand where it stands."""

    def __init__(self, records):
        if not isinstance(records, list):
            raise BadRecord(0)
        names = {}
        for number, record in enumerate(records, start=1):
            if not _can_stand(record, number, records, names):
                raise BadRecord(number)
            if record[0] == "head":
                names[record[1]] = True
        self._rows = tuple(records)
        self._names = names

    @property
    def records(self):
        """The list of the records."""
        return list(self._rows)

    @property
    def names(self):
        """The ascending list of the names of which a head stands."""
        return sorted(self._names)

    def __len__(self):
        return len(self._rows)

    # Without this, Python would look for the records with the numbers 0, 1 and so on.
    def __iter__(self):
        raise TypeError("an archive is not iterated over")

    def __getitem__(self, at):
        """The record with this number, from 1."""
        if not is_between(at, 1, len(self._rows)):
            raise NoRecord(at)
        return self._rows[at - 1]

    def __eq__(self, other):
        return isinstance(other, Archive) and self._rows == other._rows

    def __add__(self, other):
        """The archive of the records of this one and, after them, those of the other."""
        if not isinstance(other, Archive):
            return NotImplemented
        return _unchecked(self._rows + other._rows, {**self._names, **other._names})

    def added(self, record):
        """The archive with one record more."""
        number = len(self._rows) + 1
        if not _can_stand(record, number, self._rows, self._names):
            raise BadRecord(number)
        names = {**self._names, record[1]: True} if record[0] == "head" else self._names
        return _unchecked((*self._rows, record), names)

    def cut(self, number):
        """The archive of the first records, so many."""
        if not is_between(number, 0, len(self._rows)):
            raise NoRecord(number)
        records = self._rows[:number]
        return _unchecked(records, {record[1]: True for record in records if record[0] == "head"})

    def heads_of(self, name):
        """The ascending list of the numbers of the heads of a name, of any value."""
        return [at for at, record in enumerate(self._rows, start=1) if record[:2] == ("head", name)]

    def line(self, name):
        """The line of a name: a list of what each record is for it."""
        told = []
        for number, record in enumerate(self._rows, start=1):
            events, rest = events_of(record, number)
            told.append(events.get(name, rest))
        return told


def _unchecked(records, names):
    """The archive of records that are known to stand where they stand, with heads of these names."""
    # Looking at each record again would make each longer archive as slow as its whole length.
    archive = Archive([])
    archive._rows = records
    archive._names = names
    return archive
