"""The positions at rest of all names of an archive at once, with the entries that their numbers stand for."""

from twolistings.archives import events_of
from twolistings.forms import numbered
from twolistings.tails import entries_of, tail_after, with_entries


def numbers_of(tail):
    """The tail with its entries replaced by numbers, as in a position."""
    return with_entries(tail, numbered(entries_of(tail)))


def _merged(one, other):
    """The names of two groups in one of them; the fewer ones go to the more, so that no name moves often."""
    fewer, more = (one, other) if len(one) < len(other) else (other, one)
    more.update(fewer)
    return more


class Company:
    """All names for which the readers with some rules show the same, until they part for one.

    A record is the same event for all names that it does not speak of. So that these need not move one by one,
    names are kept in groups that move as one: the tail of a group has places instead of entries, and each name of
    the group has its own entries at these places, 0 at the first one. The names for which the readers part are in
    the group of None; a company in which it has names hears no more.
    """

    def __init__(self, rules):
        self._rules = list(rules)
        self._groups = {}
        # The tail of each name that no record has spoken of so far.
        self._unheard = (0, 0, tuple([(0, 0) for _ in rules]))
        # What comes after an event of a tail, as it is worked out once.
        self._ways = {}

    def twin(self):
        """A company with the same names, which goes on by itself."""
        other = Company(self._rules)
        other._groups = {tail: dict(members) for tail, members in self._groups.items()}
        other._unheard = self._unheard
        return other

    def groups(self):
        """The list of (tail, members) of the groups; members is a dict from each name to its entries."""
        return [(tail, members) for tail, members in self._groups.items() if members]

    def state_of(self, name):
        """The tail and the entries of a name."""
        for tail, members in self._groups.items():
            if name in members:
                return tail, members[name]
        return self._unheard, (0,)

    def table(self):
        """The dict from each shown name to its entry."""
        shown = [(tail[0], members) for tail, members in self._groups.items() if tail[0] > 0]
        return {name: entries[place] for place, members in shown for name, entries in members.items()}

    def hear(self, record, number):
        """The next record, with its number; returns the list of the names of which the shown entry changes."""
        events, rest = events_of(record, number)
        states = [(name, self._taken(name)) for name in events]
        changed = self._move(rest[0])
        for name, (tail, entries) in states:
            event, entry = events[name]
            known = entries if entry in entries else (*entries, entry)
            after = self._after(tail, event, known.index(entry))
            self._place(name, after, known)
            if after is not None and after[0] != tail[0]:
                changed.append(name)
        return changed

    def stray(self, rows):
        """The least name that is at none of these positions; "" if only one is that was never spoken of, else None."""
        names = [min(members) for tail, members in self.groups() if tail is None or not _is_in(tail, rows)]
        return min(names, default=None if _is_in(self._unheard, rows) else "")

    def _after(self, tail, event, place):
        way = (tail, event, place)
        if way not in self._ways:
            self._ways[way] = tail_after(self._rules, tail, event, place)
        return self._ways[way]

    def _taken(self, name):
        """The tail and the entries of a name, which leaves its group."""
        tail, entries = self.state_of(name)
        if tail in self._groups:
            self._groups[tail].pop(name, None)
        return tail, entries

    def _move(self, event):
        """An event of all names, those unheard, too; returns the list of the names of which the shown entry changes."""
        groups = {}
        changed = []
        for tail, members in self.groups():
            after = self._after(tail, event, 0)
            groups[after] = _merged(groups.get(after, {}), members)
            if after is not None and after[0] != tail[0]:
                changed.extend(list(members))
        self._groups = groups
        self._unheard = self._after(self._unheard, event, 0)
        return changed

    def _place(self, name, tail, entries):
        """Puts a name into the group of its tail, with the entries alone that this has."""
        if tail is None:
            self._groups.setdefault(None, {})[name] = ()
            return
        places = [0]
        for place in entries_of(tail):
            if place not in places:
                places.append(place)
        self._groups.setdefault(numbers_of(tail), {})[name] = tuple([entries[place] for place in places])


def _is_in(tail, rows):
    """Whether the position at rest with this tail is among rows."""
    return ("rest", 0, *numbers_of(tail)) in rows
