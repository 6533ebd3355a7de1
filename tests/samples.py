"""Values, rules and archives for the tests, and what the document says of them, worked out by its plain words."""

from twolistings.rules import Rule

EVENTS = ["head", "strike", "other", "named", "struck", "absent"]
KNOWN = {
    "heads": Rule.heads(), "last_list": Rule.last_list(), "all_lists": Rule.all_lists(), "waiting": Rule.waiting(),
    "checking": Rule.checking(), "twice": Rule.twice(), "primed": Rule.primed(),
}
FILE = ("file", "")


def deep(value, levels, kind):
    for _ in range(levels):
        value = kind([value])
    return value


# No list in these is changed by a test.
VALUES = [
    None, True, False, 0, 1, 2, -1, 10 ** 39, -10 ** 39, "", "a", "head", "rest", "same", (), [], (1,), [1], ("a",),
    ["a"], [[]], ((),), ([],), [()], (0, 0, 0), [0, 0, 0], ("head", 1), ("rest", 0, 0, 0, ((0, 0),)),
    deep(None, 30, list), deep("a", 30, lambda items: tuple(items)), [True], [None], {}, {"a": 1},
]
NO_RULES = [
    *VALUES, (Rule.heads(),), [Rule.heads().modes], [Rule.heads(), None], [Rule], Rule.heads(), [Rule.heads()] * 4,
    [Rule.heads(), Rule.heads(), [Rule.heads()]],
]
NO_PLANS = [
    *VALUES, "L", "LL", "EE", "EEL", "LLLL", "EEEE", "ELLLL", "LLLLE", "e", "eL", "El", "EX", "XE", " E", "E ", "E\n",
    "put", ["E", "L"], ("E",), ["E"], ("E", "L"),
]
NO_QUESTIONS = [value for value in VALUES if value != "same"] + [
    "Same", "same ", "sures", "don", "done sure", ["same"], ("done",), b"sure",
]


def raised(call, *given, **named):
    """What a call raises: the name of the error and a dict of its attributes; None if nothing."""
    try:
        call(*given, **named)
    except ValueError as error:
        return type(error).__name__, vars(error)
    return None


def random_row(rng, event, size):
    letters = "sko" + {"head": "n", "named": "x"}.get(event, "")

    def letter():
        return rng.choice(letters)
    conditions = [(letter(), rng.choice(["==", "!="]), letter()) for _ in range(rng.choice([0, 0, 1, 1, 2]))]
    return tuple(conditions), rng.randrange(size), letter(), letter()


def random_rule(rng, size, most=2):
    return Rule([[[random_row(rng, event, size) for _ in range(rng.randrange(most + 1))] for event in EVENTS]
                 for _ in range(size)])


def random_records(rng, size, names):
    """Records of an archive: heads and strikes of some names, and lists of some of those of which a head stands."""
    records, heads = [], {}
    for number in range(1, size + 1):
        kind = rng.choice(["head", "strike", "list", "list"])
        name = rng.choice(names)
        if kind == "head":
            records.append(("head", name, rng.choice([FILE, ("folder",), ("link", name), ("file", name)])))
            heads.setdefault(name, []).append(number)
        elif kind == "strike":
            records.append(("strike", name))
        else:
            told = sorted(rng.sample(sorted(heads), rng.randrange(len(heads) + 1)))
            backs = [rng.choice([number - rng.choice(heads[name]), number - heads[name][-1], 0]) for name in told]
            records.append(("list", tuple(zip(told, backs))))
    return records


def line_of(records, name):
    """The line of a name, by the words of point 6."""
    line = []
    for number, record in enumerate(records, start=1):
        if record[0] != "list":
            if record[1] == name:
                line.append(("head", number) if record[0] == "head" else ("strike", 0))
            else:
                line.append(("other", 0))
            continue
        backs = [back for of, back in record[1] if of == name]
        if not backs:
            line.append(("absent", 0))
        else:
            line.append(("struck", 0) if backs == [0] else ("named", number - backs[0]))
    return line


def state_after(rule, state, event, entry):
    """The mode, the shown and the kept entry after an event, by the words of point 8."""
    mode, shown, kept = state
    stands_for = {"s": shown, "k": kept, "o": 0, "n": entry, "x": entry}
    for conditions, after, first, second in rule.modes[mode][EVENTS.index(event)]:
        holds = True
        for x, sign, y in conditions:
            equal = stands_for[x] == stands_for[y]
            holds = holds and (equal if sign == "==" else not equal)
        if holds:
            return after, stands_for[first], stands_for[second]
    return mode, shown, kept


def state_behind(rule, line):
    state = (0, 0, 0)
    for event, entry in line:
        state = state_after(rule, state, event, entry)
    return state


def names_in(records):
    """All names that records speak of in heads and strikes."""
    return sorted({record[1] for record in records if record[0] != "list"})


def table_by_lines(rule, records):
    """The table of a rule, name by name."""
    shown = {name: state_behind(rule, line_of(records, name))[1] for name in names_in(records)}
    return {name: entry for name, entry in shown.items() if entry > 0}


def by_first_place(entries):
    """The entries, replaced by numbers in the order in which they first appear; 0 stays 0."""
    order = []
    for entry in entries:
        if entry != 0 and entry not in order:
            order.append(entry)
    return [0 if entry == 0 else order.index(entry) + 1 for entry in entries]
