"""Keepers: archives that are written by a book, so that all readers show the same after each record."""

from twolistings.archives import Archive, is_name, is_thing
from twolistings.books import shows_book
from twolistings.companies import Company, numbers_of
from twolistings.edits import check_game, signs_of
from twolistings.errors import BadName, BadSteps, BadThing, Barred, NoBook, NoRecord, OffBook
from twolistings.forms import is_between
from twolistings.trees import FOLDER, first_unclean, has_folder, parent


def _check_name(name):
    if not is_name(name):
        raise BadName()


def _check_thing(thing):
    if not is_thing(thing):
        raise BadThing()


def _back(word, tail, entries, number):
    """What the list with this number says of a name: the distance to the entry of a saying, 0 if it is struck."""
    if word == "struck":
        return 0
    shown, newest, _ = tail
    return number - entries[shown if word == "shown" else newest]


def _first_below(table, name):
    """The least name of a table that is below a name, None if there is none."""
    return min([other for other in table if other.startswith(name + "/")], default=None)


class Keeper:
    """A keeper of rules, a plan, a question and a book, which holds an archive."""

    def __init__(self, rules, plan, question, book):
        check_game(rules, plan, question)
        if not shows_book(rules, plan, question, book):
            raise NoBook()
        self._rules = list(rules)
        self._plan = plan
        self._question = question
        self._book = list(book)
        # The first of the sayings at each position; at rest and where the next step is "E" there is none.
        self._words = {position: told[0] if told else "" for position, told in book}
        self._records = []
        self._company = Company(rules)
        self._whole = None

    @classmethod
    def opened(cls, rules, plan, question, book, archive):
        """A keeper with this archive."""
        keeper = cls(rules, plan, question, book)
        keeper.attach(archive)
        return keeper

    @property
    def archive(self):
        """The archive."""
        if self._whole is None:
            self._whole = Archive(self._records)
        return self._whole

    def put(self, name, thing, *, steps=None):
        """Puts a thing under a name; steps tells after how many steps the edit is stopped."""
        _check_name(name)
        _check_thing(thing)
        self._check_steps(steps)
        self._edit("put", name, ("head", name, thing), steps)

    def strike(self, name, *, steps=None):
        """Strikes a name; steps tells after how many steps the edit is stopped."""
        _check_name(name)
        self._check_steps(steps)
        self._edit("strike", name, ("strike", name), steps)

    def mend(self):
        """Writes one list."""
        self._edit("mend", "", None, None)

    def cut(self, number):
        """Keeps the first records alone, so many."""
        if not is_between(number, 0, len(self._records)):
            raise NoRecord(number)
        company = Company(self._rules)
        records = self._records[:number]
        for at, record in enumerate(records, start=1):
            company.hear(record, at)
        self._take(records, company)

    def attach(self, archive):
        """Puts the records of an archive behind the own ones."""
        self._take(self._records + archive.records, self._heard_behind(archive))

    def table(self):
        """The dict from each shown name to its entry."""
        return self._company.table()

    def tree(self):
        """The dict from each shown name to its thing."""
        return {name: self._records[entry - 1][2] for name, entry in self._company.table().items()}

    def position(self, name):
        """The position of a name at rest."""
        _check_name(name)
        tail, _ = self._company.state_of(name)
        return ("rest", 0, *numbers_of(tail))

    def copy(self):
        """A keeper of the same kind and with the same archive, which goes on by itself."""
        twin = Keeper(self._rules, self._plan, self._question, self._book)
        twin._take(list(self._records), self._company.twin())
        return twin

    def _take(self, records, company):
        """Holds other records, and the company that has heard them."""
        self._records = records
        self._company = company
        self._whole = None

    def _check_steps(self, steps):
        if steps is not None and not is_between(steps, 1, len(self._plan)):
            raise BadSteps()

    def _edit(self, role, name, own, steps):
        """Writes the records of an edit: its own one at "E", a list at "L"; all of them if steps is None."""
        for done, sign in enumerate(signs_of(self._plan, role)[:steps]):
            record = own if sign == "E" else ("list", self._items(role, name, done))
            self._records.append(record)
            self._company.hear(record, len(self._records))
        self._whole = None

    def _word(self, role, done, tail):
        """What is said of a name with this tail, in an edit of which so many steps are done."""
        position = (role, done, *numbers_of(tail))
        # A position without a row is that of another name in a group in which the edited one is alone.
        return self._words.get(position, "absent")

    def _items(self, role, name, done):
        """The items of the next list, in an edit of a name of which so many steps are done."""
        number = len(self._records) + 1
        items = []
        for tail, members in self._company.groups():
            word = self._word("mend" if role == "mend" else "other", done, tail)
            told = [other for other in members if other != name and word != "absent"]
            items.extend([(other, _back(word, tail, members[other], number)) for other in told])
        if role != "mend":
            tail, entries = self._company.state_of(name)
            word = self._word(role, done, tail)
            if word != "absent":
                items.append((name, _back(word, tail, entries, number)))
        return tuple(sorted(items))

    def _heard_behind(self, archive):
        """A company that has heard the records of an archive behind the own ones; raises OffBook."""
        company = self._company.twin()
        for number, record in enumerate(archive.records, start=len(self._records) + 1):
            company.hear(record, number)
            name = company.stray(self._words)
            if name is not None:
                raise OffBook(number, name)
        return company


class GuardedKeeper(Keeper):
    """A keeper for the question "sure" of which the table is clean after every record."""

    def __init__(self, rules, plan, book):
        super().__init__(rules, plan, "sure", book)

    @classmethod
    def opened(cls, rules, plan, book, archive):
        """A guarded keeper with this archive."""
        keeper = cls(rules, plan, book)
        keeper.attach(archive)
        return keeper

    def put(self, name, thing, *, steps=None):
        """Puts a thing under a name whose parent is a folder; no names may be below it if the thing is none."""
        _check_name(name)
        _check_thing(thing)
        self._check_steps(steps)
        tree = self.tree()
        if not has_folder(tree, name):
            raise Barred(parent(name))
        below = None if thing == FOLDER else _first_below(tree, name)
        if below is not None:
            raise Barred(below)
        self._edit("put", name, ("head", name, thing), steps)

    def strike(self, name, *, steps=None):
        """Strikes a name below which none is shown."""
        _check_name(name)
        self._check_steps(steps)
        below = _first_below(self.table(), name)
        if below is not None:
            raise Barred(below)
        self._edit("strike", name, ("strike", name), steps)

    def attach(self, archive):
        """Puts the records of an archive behind the own ones, if the table is clean after each of them."""
        company = self._heard_behind(archive)
        self._check_clean(archive)
        self._take(self._records + archive.records, company)

    def copy(self):
        """A guarded keeper with the same archive, which goes on by itself."""
        twin = GuardedKeeper(self._rules, self._plan, self._book)
        twin._take(list(self._records), self._company.twin())
        return twin

    def _check_clean(self, archive):
        """Raises Barred if behind a record of an archive, which is attached, the table is not clean."""
        records = self._records + archive.records
        company = self._company.twin()
        tree = self.tree()
        for number, record in enumerate(archive.records, start=len(self._records) + 1):
            changed = company.hear(record, number)
            folders = [name for name in changed if tree.get(name) == FOLDER]
            for name in changed:
                tail, entries = company.state_of(name)
                if tail[0] > 0:
                    tree[name] = records[entries[tail[0]] - 1][2]
                else:
                    del tree[name]
            # Only a name that has changed, or one below a folder that has, can have become unclean.
            lost = [name for name in folders if tree.get(name) != FOLDER]
            if lost or not all([has_folder(tree, name) for name in changed if name in tree]):
                wrong = first_unclean(tree)
                if wrong is not None:
                    raise Barred(wrong)
