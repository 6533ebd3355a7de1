"""Readers: what they have for a name, and the tables that they show."""

from twolistings.checks import check_rules
from twolistings.crowds import Crowd
from twolistings.states import BEGINNING, after_event


class Sight:
    """What a reader with a rule has for one name: a mode, a shown and a kept entry."""

    def __init__(self, rule):
        self._rule = rule
        self._state = BEGINNING

    @property
    def mode(self):
        """The number of the mode."""
        return self._state[0]

    @property
    def shown(self):
        """The shown entry, 0 if none is."""
        return self._state[1]

    @property
    def kept(self):
        """The kept entry, 0 if none is."""
        return self._state[2]

    def see(self, event, entry=0):
        """An event of the line of the name; entry is the new or the named one."""
        self._state = after_event(self._rule, self._state, event, entry)


def table_of(rule, archive):
    """The dict from each name that a reader with this rule shows to the shown entry."""
    crowd = Crowd(rule)
    for number, record in enumerate(archive.records, start=1):
        crowd.hear(record, number)
    return crowd.table()


def tables_along(rule, archive):
    """A generator of the tables of the beginnings of an archive, from the one without records on."""
    crowd = Crowd(rule)
    yield crowd.table()
    for number, record in enumerate(archive.records, start=1):
        crowd.hear(record, number)
        yield crowd.table()


def common(rules, archive):
    """("yes", table) if all rules show the same table, else ("no", name) with the least name of which they do not."""
    check_rules(rules)
    tables = [table_of(rule, archive) for rule in rules]
    for name in archive.names:
        if any([table.get(name, 0) != tables[0].get(name, 0) for table in tables]):
            return "no", name
    return "yes", tables[0]


def things(archive, table):
    """The dict from each name of a table of this archive to the thing of its entry."""
    return {name: archive[entry][2] for name, entry in table.items()}
