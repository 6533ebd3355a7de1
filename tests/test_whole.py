"""What the points promise over the whole program: keepers beside all readers, texts, joins, contests, names."""

import importlib
import inspect
import random
import unittest

from plays import QUESTIONS, SAYINGS
from samples import FILE, KNOWN, NO_PLANS, NO_QUESTIONS, NO_RULES, raised, table_by_lines
from twolistings import errors
from twolistings.archives import Archive
from twolistings.books import shows_book, shows_defeat, verdict
from twolistings.contests import contest
from twolistings.joins import joins_keep
from twolistings.keepers import GuardedKeeper, Keeper
from twolistings.least import greatest_book, least_plan, thin_book
from twolistings.positions import position_of
from twolistings.readers import common, table_of, tables_along, things
from twolistings.rules import Rule
from twolistings.texts import by_all, from_end, from_front, read, show
from twolistings.trees import first_unclean
from twolistings.writers import judged, written

FOLDER = ("folder",)
CHAIN = [Rule.last_list(), Rule.all_lists(), Rule.checking()]
NAMES = ["a", "b", "b/c", "d e", "d e/f", "g"]
# Known rules with a plan and a question for which they have a book.
GAMES = [([KNOWN[name] for name in names.split()], plan, question) for names, plan, question in [
    ("heads", "E", "sure"), ("heads", "LEL", "same"), ("last_list", "EL", "sure"), ("all_lists", "EL", "sure"),
    ("checking", "EL", "done"), ("twice", "ELL", "sure"), ("primed", "LEL", "sure"), ("waiting", "EL", "done"),
    ("last_list all_lists", "EL", "sure"), ("all_lists checking", "ELL", "sure"), ("primed all_lists", "LEL", "sure"),
    ("last_list all_lists checking", "EL", "sure"), ("last_list all_lists checking", "LEL", "sure")]]


def three_books(rules, plan, question):
    thin, greatest = thin_book(rules, plan, question)[0], greatest_book(rules, plan, question)
    return [verdict(rules, plan, question)[1], thin, greatest]


class KeepersBesideReaders(unittest.TestCase):
    def history(self, rng, keeper, plan, size):
        """Edits of a keeper: a list of (first, last, role, name, whole); so many records stood ahead and behind."""
        edits = []
        for _ in range(size):
            role, name = rng.choice(["put", "put", "strike", "mend"]), rng.choice(NAMES)
            steps, first = rng.choice([None, None, *range(1, len(plan) + 1)]), len(keeper.archive)
            if role == "put":
                keeper.put(name, rng.choice([FILE, FOLDER]), steps=steps)
            elif role == "strike":
                keeper.strike(name, steps=steps)
            else:
                keeper.mend()
            edits.append((first, len(keeper.archive), role, name, steps in (None, len(plan))))
        return edits

    def all_tables(self, rules, keeper):
        """The tables of the beginnings of a keeper's archive, which are the same for all its rules."""
        tables = [list(tables_along(rule, keeper.archive)) for rule in rules]
        for others in tables[1:]:
            self.assertEqual(others, tables[0])
        return tables[0]

    def test_all_readers_show_the_same_after_every_record(self):
        rng = random.Random(121)
        for rules, plan, question in GAMES:
            for book in three_books(rules, plan, question):
                keeper = Keeper(rules, plan, question, book)
                for _ in range(4):
                    self.history(rng, keeper, plan, 15)
                    tables = self.all_tables(rules, keeper)
                    self.assertEqual(keeper.table(), tables[-1])
                    self.assertEqual(common(rules, keeper.archive), ("yes", keeper.table()))
                    self.assertEqual(keeper.tree(), things(keeper.archive, tables[-1]))
                    keeper.cut(rng.randrange(len(keeper.archive) // 2, len(keeper.archive) + 1))
                    # The positions of a keeper are those of its book.
                    places = {position for position, _ in book}
                    for name in [*NAMES, "q"]:
                        self.assertIn(keeper.position(name), places)
                        self.assertEqual(keeper.position(name), position_of(rules, keeper.archive, name))

    def test_what_the_questions_ask(self):
        rng = random.Random(122)
        for rules, plan, question in GAMES:
            for book in three_books(rules, plan, question):
                keeper = Keeper(rules, plan, question, book)
                edits = self.history(rng, keeper, plan, 60)
                tables = self.all_tables(rules, keeper)
                for first, last, role, name, is_whole in edits:
                    newest = max([0, *[head for head in keeper.archive.heads_of(name) if head <= last]])
                    if question != "same" and is_whole and role != "mend":
                        # A whole edit has changed the table.
                        self.assertEqual(tables[last].get(name, 0), newest if role == "put" else 0)
                    if question == "sure":
                        self.changes_once(tables[first:last + 1], role, name, newest)

    def changes_once(self, tables, role, name, newest):
        """For "sure" only the edited name changes, at most once, to what is new."""
        changes = [(before, after) for before, after in zip(tables, tables[1:]) if before != after]
        self.assertLessEqual(len(changes), 0 if role == "mend" else 1)
        for before, after in changes:
            self.assertEqual(after.get(name), newest if role == "put" else None)
            before.pop(name, None)
            self.assertEqual(before, {other: entry for other, entry in after.items() if other != name})

    def test_guarded_keepers_beside_all_readers(self):
        rng = random.Random(123)
        for rules, plan, question in GAMES:
            if question == "sure":
                keeper = GuardedKeeper(rules, plan, rng.choice(three_books(rules, plan, question)))
                for _ in range(60):
                    name, steps = rng.choice(NAMES), rng.choice([None, None, *range(1, len(plan) + 1)])
                    if rng.random() < 0.6:
                        raised(keeper.put, name, rng.choice([FILE, FOLDER, FOLDER]), steps=steps)
                    else:
                        raised(keeper.strike, name, steps=steps)
                    if rng.random() < 0.1:
                        keeper.cut(rng.randrange(len(keeper.archive) + 1))
                for number, table in enumerate(self.all_tables(rules, keeper)):
                    self.assertIsNone(first_unclean(things(keeper.archive.cut(number), table)))

    def test_joined_archives_of_keepers(self):
        # Where joins keep to a book, the archives of two keepers can be joined, name by name.
        rng, words = random.Random(124), []
        for rules, plan, question in GAMES:
            book = thin_book(rules, plan, question)[0]
            words.append(joins_keep(rules, plan, question, book)[0])
            for _ in range(3):
                one, other = Keeper(rules, plan, question, book), Keeper(rules, plan, question, book)
                self.history(rng, one, plan, 12)
                self.history(rng, other, plan, 12)
                whole = one.archive + other.archive
                if words[-1] == "yes":
                    one.attach(other.archive)
                    self.assertEqual(one.archive, whole)
                    self.all_tables(rules, one)
                    self.assertEqual(one.table(), table_of(rules[0], whole))
        self.assertEqual(set(words), {"yes", "no"})


class TextsBesideKeepers(unittest.TestCase):
    def test_the_three_readers_of_a_text_tell_what_the_three_rules_show(self):
        rng = random.Random(125)
        book = thin_book(CHAIN, "EL", "sure")[0]
        keeper = Keeper(CHAIN, "EL", "sure", book)
        for _ in range(25):
            name, steps = rng.choice(NAMES), rng.choice([None, 1])
            if rng.random() < 0.7:
                keeper.put(name, rng.choice([FOLDER, ("file", "a;b:c,d^"), ("link", "x,y")]), steps=steps)
            else:
                keeper.strike(name, steps=steps)
        text = show(keeper.archive)
        self.assertEqual(read(text), keeper.archive)
        for size in range(0, len(text) + 1):
            beginning = keeper.archive.cut(text[:size].count(";"))
            told = [from_front(text[:size]), from_end(text[:size]), by_all(text[:size])]
            self.assertEqual(told, told[:1] * 3)
            if text[:size].endswith(";"):
                self.assertEqual(told[0], things(beginning, table_by_lines(CHAIN[0], beginning.records)))
        self.assertEqual(Keeper.opened(CHAIN, "EL", "sure", book, read(text)).tree(), keeper.tree())


class BooksAndDefeats(unittest.TestCase):
    def test_heads_and_last_list_have_no_book_with_any_plan(self):
        rules = [Rule.heads(), Rule.last_list()]
        signs = [plan[:at] + "E" + plan[at:] for plan in ("", "L", "LL", "LLL") for at in range(len(plan) + 1)]
        self.assertEqual(len(signs), 10)
        for plan in signs:
            for question in QUESTIONS:
                self.assertEqual(verdict(rules, plan, question)[0], "no")
        self.assertEqual([least_plan(rules, question)[0] for question in QUESTIONS], ["no"] * 3)

    def test_who_keeps_and_who_is_beaten(self):
        # A writer by a book is judged to keep it; against a defeat each told thing comes to readers that part.
        rng = random.Random(126)
        for rules, plan, question in GAMES:
            for book in three_books(rules, plan, question):
                self.assertTrue(shows_book(rules, plan, question, book))
                writer = [(position, rng.choice(words)) for position, words in book if words]
                self.assertEqual(judged(rules, plan, question, writer)[0], "yes")
        for names in (["heads", "last_list"], ["heads", "checking"], ["waiting", "heads"], ["primed", "heads"]):
            rules = [KNOWN[name] for name in names]
            for plan in ("E", "EL", "LEL"):
                word, defeat = verdict(rules, plan, "same")
                self.assertTrue(word == "yes" or shows_defeat(rules, plan, "same", defeat))
                for _ in range(6 if word == "no" else 0):
                    deeds, archive = contest(rules, plan, "same", defeat, [rng.choice(SAYINGS) for _ in range(5)])
                    self.assertEqual(common(rules, archive), ("no", "a"))
                    self.assertEqual(common(rules, archive.cut(len(archive) - 1))[0], "yes")

    def test_a_keeper_writes_what_its_writer_does(self):
        # Of one name, a keeper's archive is that of its sayings as a writer's.
        deeds = [("put", 2), ("put", 1), ("mend", 1), ("strike", 1), ("strike", 2), ("mend", 1), ("put", 2)]
        book = thin_book(CHAIN, "EL", "sure")[0]
        writer = [(position, words[0]) for position, words in book if words]
        keeper = Keeper(CHAIN, "EL", "sure", book)
        for role, steps in deeds:
            if role == "put":
                keeper.put("a", FILE, steps=steps)
            elif role == "strike":
                keeper.strike("a", steps=steps)
            else:
                keeper.mend()
        self.assertEqual(written(CHAIN, "EL", writer, deeds), keeper.archive)


ERRORS = {
    "BadModes": [], "BadRow": ["place"], "NoPlace": ["place"], "BadRecord": ["number"], "NoRecord": ["number"],
    "BadEvent": ["number"], "BadRules": [], "BadPlan": [], "NoQuestion": ["word"], "BadPosition": [],
    "BadSaying": ["saying"], "BadWriter": ["at"], "BadDeed": ["at"], "Parted": ["name"], "NoBook": [], "NoDefeat": [],
    "BadName": [], "BadThing": [], "BadSteps": [], "OffBook": ["number", "name"], "Barred": ["name"], "BadOrder": [],
    "BadText": ["number"],
}
FUNCTIONS = {
    "closures": {"reached": "first after", "route": "rows at"},
    "archives": {"is_name": "value", "is_thing": "value"},
    "readers": {"table_of": "rule archive", "tables_along": "rule archive", "common": "rules archive",
                "things": "archive table"},
    "joints": {"first_joint": "", "is_joint": "one other value", "joints_after": "one other joint",
               "alike": "one other",
               "shows_alike": "one other value", "shows_parting": "one other value", "archive_of": "line"},
    "positions": {"start": "rules", "is_position": "rules plan value", "position_of": "rules archive name",
                  "demanded": "position role", "stopped": "position", "sayings": "position",
                  "step": "rules plan question position saying"},
    "books": {"verdict": "rules plan question", "met": "rules plan question", "beaten": "rules plan question",
              "shows_book": "rules plan question value", "shows_warnings": "rules plan question value",
              "shows_defeat": "rules plan question value"},
    "least": {"least_plan": "rules question", "greatest_book": "rules plan question",
              "thin_book": "rules plan question",
              "shows_least": "rules question value", "shows_thin": "rules plan question value"},
    "writers": {"judged": "rules plan question writer", "shows_kept": "rules plan question writer value",
                "shows_broken": "rules plan question writer value", "written": "rules plan writer deeds"},
    "contests": {"contest": "rules plan question defeat said"},
    "joins": {"joins_keep": "rules plan question book", "shows_joins": "rules plan question book value",
              "shows_unjoined": "rules plan question book first second"},
    "trees": {"parent": "name", "first_unclean": "table", "answer": "table path", "by_parts": "table",
              "order_keeps": "table order"},
    "texts": {"show": "archive", "read": "text", "whole_part": "text", "from_front": "text", "from_end": "text",
              "by_all": "text"},
}
METHODS = {
    "rules.Rule": {"__init__": "self modes", "modes": "self", "__len__": "self", "__call__": "self mode event entries",
                   "changed": "self mode event rows", "heads": "", "last_list": "", "all_lists": "", "waiting": "",
                   "checking": "", "twice": "", "primed": ""},
    "archives.Archive": {"__init__": "self records", "records": "self", "names": "self", "__len__": "self",
                         "added": "self record", "cut": "self number", "heads_of": "self name", "line": "self name"},
    "readers.Sight": {"__init__": "self rule", "mode": "self", "shown": "self", "kept": "self",
                      "see": "self event entry"},
    "keepers.Keeper": {"__init__": "self rules plan question book", "opened": "cls rules plan question book archive",
                       "put": "self name thing steps", "strike": "self name steps", "mend": "self",
                       "cut": "self number", "attach": "self archive", "archive": "self", "table": "self",
                       "tree": "self", "position": "self name", "copy": "self"},
    "keepers.GuardedKeeper": {"__init__": "self rules plan book", "opened": "cls rules plan book archive",
                              "put": "self name thing steps", "strike": "self name steps", "attach": "self archive",
                              "copy": "self"},
}


class Interface(unittest.TestCase):
    def test_functions_and_their_arguments(self):
        for module, functions in FUNCTIONS.items():
            told = importlib.import_module(f"twolistings.{module}")
            for name, arguments in functions.items():
                function = getattr(told, name)
                self.assertEqual(list(inspect.signature(function).parameters), arguments.split(), name)
                self.assertEqual(function.__module__, f"twolistings.{module}")

    def test_methods_and_their_arguments(self):
        for place, methods in METHODS.items():
            module, name = place.split(".")
            told = getattr(importlib.import_module(f"twolistings.{module}"), name)
            self.assertEqual(told.__module__, f"twolistings.{module}")
            for method, arguments in methods.items():
                held = vars(told)[method]
                function = held.fget if isinstance(held, property) else getattr(held, "__func__", held)
                self.assertEqual(list(inspect.signature(function).parameters), arguments.split(), (name, method))

    def test_steps_by_name_alone(self):
        for kind in (Keeper, GuardedKeeper):
            for method in (kind.put, kind.strike):
                told = inspect.signature(method).parameters["steps"]
                self.assertEqual((told.kind, told.default), (inspect.Parameter.KEYWORD_ONLY, None))

    def test_errors(self):
        kinds = {name: value for name, value in vars(errors).items() if inspect.isclass(value)}
        self.assertEqual(sorted(kinds), sorted([*ERRORS, "TwoError"]))
        self.assertEqual(errors.TwoError.__bases__, (ValueError,))
        for name, fields in ERRORS.items():
            self.assertEqual(kinds[name].__bases__, (errors.TwoError,))
            given = {field: object() for field in fields}
            self.assertEqual(vars(kinds[name](*given.values())), given)
            self.assertEqual(vars(kinds[name](**given)), given)

    def test_rules_plans_and_questions_in_this_order_wherever_they_are_taken(self):
        rng = random.Random(127)
        for module, functions in FUNCTIONS.items():
            for name, arguments in functions.items():
                taken = [word for word in ("rules", "plan", "question") if word in arguments.split()]
                function = getattr(importlib.import_module(f"twolistings.{module}"), name)
                for at, word in enumerate(taken):
                    error, values = {"rules": ("BadRules", NO_RULES), "plan": ("BadPlan", NO_PLANS),
                                     "question": ("NoQuestion", NO_QUESTIONS)}[word]
                    for value in rng.sample(values, 8):
                        given = {other: [] for other in arguments.split()}
                        given.update({"rules": CHAIN, "plan": "EL", "question": "sure", word: value})
                        given.update({later: None for later in taken[at + 1:]})
                        given = {other: given[other] for other in arguments.split()}
                        if "archive" in given:
                            given["archive"] = Archive([])
                        self.assertEqual(raised(function, **given)[0], error, (name, word, value))


if __name__ == "__main__":
    unittest.main()
