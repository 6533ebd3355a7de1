"""What a reader has for all names of an archive at once."""

from twolistings.archives import events_of
from twolistings.states import BEGINNING, after_event


def _merge(groups, state, members):
    """Puts names into the group of a state; the fewer ones go to the more, so that no name moves often."""
    fewer, more = members, groups.get(state, {})
    if len(fewer) > len(more):
        fewer, more = more, fewer
    more.update(fewer)
    groups[state] = more


class Crowd:
    """The states of all names, for a reader with a rule.

    A record is the same event for all names that it does not speak of. So that these need not move one by one,
    names are kept in groups that move as one: the state of a group has a place, 0 to 2, instead of each entry,
    and each name of the group has its own entries at these places.
    """

    def __init__(self, rule):
        self._rule = rule
        self._groups = {}
        # The state of each name that no record has spoken of so far.
        self._unheard = BEGINNING

    def hear(self, record, number):
        """The next record of the archive, with its number."""
        events, rest = events_of(record, number)
        states = {name: self._taken(name) for name in events}
        self._move(rest[0])
        for name, (event, entry) in events.items():
            self._place(name, after_event(self._rule, states[name], event, entry))

    def table(self):
        """The dict from each name with a shown entry above 0 to this entry."""
        shown = [(state[1], members) for state, members in self._groups.items() if state[1] > 0]
        return {name: entries[place] for place, members in shown for name, entries in members.items()}

    def _group_of(self, name):
        for state, members in self._groups.items():
            if name in members:
                return state
        return None

    def _taken(self, name):
        """The state of a name, which leaves its group."""
        group = self._group_of(name)
        if group is None:
            return self._unheard
        mode, shown, kept = group
        entries = self._groups[group].pop(name)
        return mode, entries[shown], entries[kept]

    def _move(self, event):
        """An event of all names that are in a group, or unheard."""
        groups = {}
        for state, members in self._groups.items():
            if members:
                _merge(groups, after_event(self._rule, state, event, 0), members)
        self._groups = groups
        self._unheard = after_event(self._rule, self._unheard, event, 0)

    def _place(self, name, state):
        """Puts a name into the group of its state."""
        mode, shown, kept = state
        entries = (0, shown, kept)
        group = (mode, entries.index(shown), entries.index(kept))
        self._groups.setdefault(group, {})[name] = entries
