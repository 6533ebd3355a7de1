"""Positions, books, warnings and deeds, worked out by the plain words of the document for the tests."""

import itertools
import random

from samples import FILE, KNOWN, by_first_place, line_of, names_in, random_rule, state_after, state_behind

ROLES = ["put", "strike", "other", "mend"]
QUESTIONS = ["same", "done", "sure"]
SAYINGS = ["absent", "struck", "shown", "newest"]
PLANS = ["E", "EL", "LE", "ELL", "LEL", "LLE", "ELLL", "LELL", "LLEL", "LLLE"]
THREE_MODES = random_rule(random.Random(1), 3)


def position_by_words(role, done, shown, newest, readers):
    """The position with these entries, whatever they are."""
    numbers = by_first_place([shown, newest, *[kept for _, kept in readers]])
    modes = [mode for mode, _ in readers]
    return role, done, numbers[0], numbers[1], tuple(zip(modes, numbers[2:]))


def step_by_words(rules, plan, question, position, saying):
    """The position after the next step, None if the step is bad, by the words of points 13 and 14."""
    role, done, before, newest, readers = position
    signs = list("L" if role == "mend" else plan)
    written = "E" in signs[:done + 1] and role != "mend"
    last = done == len(signs) - 1
    if signs[done] == "E":
        event, entry = {"put": ("head", 99), "strike": ("strike", 0), "other": ("other", 0)}[role]
        newest = 99 if role == "put" else newest
    else:
        event, entry = {"absent": ("absent", 0), "struck": ("struck", 0), "shown": ("named", before),
                        "newest": ("named", newest)}[saying]
    states = [state_after(rule, (mode, before, kept), event, entry) for rule, (mode, kept) in zip(rules, readers)]
    all_shown = {shown for _, shown, _ in states}
    if len(all_shown) > 1:
        return None
    shown = all_shown.pop()
    if question in ("done", "sure"):
        if last and role == "put" and shown != newest:
            return None
        if last and role == "strike" and shown != 0:
            return None
    if question == "sure":
        right = {before}
        if role == "put" and written:
            right.add(newest)
        if role == "strike":
            right.add(0)
        if shown not in right:
            return None
    after = [(mode, kept) for mode, _, kept in states]
    return position_by_words("rest" if last else role, 0 if last else done + 1, shown, newest, after)


def sayings_by_words(position):
    shown, newest = position[2:4]
    allowed = {"absent": True, "struck": newest > 0, "shown": shown > 0, "newest": newest > 0}
    return tuple(word for word in SAYINGS if allowed[word])


def due(plan, position):
    """The sayings that go with the next step of an edit."""
    sign = "L" if position[0] == "mend" else plan[position[1]]
    return [None] if sign == "E" else sayings_by_words(position)


def is_position_by_words(rules, plan, value):
    """Whether a tuple of the right kinds has the form of a position, by the words of point 12."""
    role, done, shown, newest, readers = value
    steps = {"rest": 1, "mend": 1}.get(role, len(plan))
    entries = [shown, newest, *[kept for _, kept in readers]]
    return (role in ["rest", *ROLES] and 0 <= done < steps and by_first_place(entries) == entries
            and (newest > 0 or set(entries) == {0})
            and all(0 <= mode < len(rule) for rule, (mode, _) in zip(rules, readers))
            and not (role == "put" and "E" in plan[:done] and newest == 0))


def all_positions(rules, plan):
    """Each value that has the form of a position."""
    modes = list(itertools.product(*[range(len(rule)) for rule in rules]))
    for entries in itertools.product(range(len(rules) + 3), repeat=len(rules) + 2):
        if by_first_place(entries) == list(entries) and (entries[1] > 0 or set(entries) == {0}):
            for role, done, chosen in itertools.product(["rest", *ROLES], range(len(plan)), modes):
                position = (role, done, *entries[:2], tuple(zip(chosen, entries[2:])))
                if is_position_by_words(rules, plan, position):
                    yield position


def some_rules(seed, count):
    """Lists of one to three rules, as point 29 bounds them."""
    rng = random.Random(seed)
    known = list(KNOWN.values())
    yield from [[rule] for rule in known]
    for number in range(count):
        ones = [rule for rule in known if len(rule) == 1] + [random_rule(rng, 1) for _ in range(3)]
        yield [
            [rng.choice(known), rng.choice(known)],
            rng.sample(ones, 3),
            [random_rule(rng, 2), rng.choice(known)],
            [random_rule(rng, 3)],
            [random_rule(rng, 2), random_rule(rng, 2)],
        ][number % 5]


def start_by_words(rules):
    return "rest", 0, 0, 0, tuple((0, 0) for _ in rules)


def at_list(plan, position):
    return position[0] != "rest" and due(plan, position) != [None]


def comes_by_words(rules, plan, question, position, words):
    """All that comes from a position by demands, stops and steps with these words; None for a bad step."""
    role, done = position[:2]
    if role == "rest":
        return [(demand, 0, *position[2:]) for demand in ROLES]
    steps = [step_by_words(rules, plan, question, position, word) for word in words]
    return steps + ([("rest", 0, *position[2:])] if done >= 1 else [])


def is_tuple(value, size):
    return type(value) is tuple and len(value) == size


def is_position_of_any(rules, plan, value):
    """Whether a value, of any value, has the form of a position, by the words of point 12."""
    if not is_tuple(value, 5) or not is_tuple(value[4], len(rules)):
        return False
    if not all(is_tuple(reader, 2) for reader in value[4]):
        return False
    numbers = [*value[1:4], *[number for reader in value[4] for number in reader]]
    if any(type(number) is not int for number in numbers) or type(value[0]) is not str:
        return False
    return is_position_by_words(rules, plan, value)


def is_book_by_words(rules, plan, question, value):
    """Whether a value is a book, by the words of point 15."""
    if type(value) is not list or not value:
        return False
    for row in value:
        if not is_tuple(row, 2) or not is_position_of_any(rules, plan, row[0]) or type(row[1]) is not tuple:
            return False
        position, words = row
        if at_list(plan, position):
            allowed = sayings_by_words(position)
            if not words or any(word not in allowed for word in words):
                return False
            if list(words) != sorted(set(words), key=SAYINGS.index):
                return False
        elif words != ():
            return False
    positions = [position for position, _ in value]
    if len(set(positions)) < len(positions) or positions[0] != start_by_words(rules):
        return False
    come = {start_by_words(rules)}
    for position, words in value:
        after = comes_by_words(rules, plan, question, position, words or [None])
        if position not in come or any(place not in positions for place in after):
            return False
        come.update(after)
    return True


def are_warnings_by_words(rules, plan, question, value):
    """Whether a value is a list of warnings, by the words of point 16."""
    if type(value) is not list:
        return False
    earlier = []
    for row in value:
        if not is_tuple(row, 2) or not is_position_of_any(rules, plan, row[0]) or row[0] in earlier:
            return False
        position, move = row
        role, done = position[:2]
        if role == "rest":
            right = move in ROLES and (move, 0, *position[2:]) in earlier
        elif move == "stop":
            right = done >= 1 and ("rest", 0, *position[2:]) in earlier
        else:
            after = [step_by_words(rules, plan, question, position, word) for word in due(plan, position)]
            right = move == "go" and all(place is None or place in earlier for place in after)
        if not right:
            return False
        earlier.append(position)
    return True


def is_defeat_by_words(rules, plan, question, value):
    if not are_warnings_by_words(rules, plan, question, value):
        return False
    return start_by_words(rules) in [position for position, _ in value]


def met_by_words(rules, plan, question):
    """The set of the met positions."""
    found, left = set(), [start_by_words(rules)]
    while left:
        position = left.pop()
        if position is not None and position not in found:
            found.add(position)
            words = due(plan, position) if position[0] != "rest" else []
            left += comes_by_words(rules, plan, question, position, words)
    return found


def beaten_by_words(rules, plan, question):
    """The set of the met positions that have rows in some warnings."""
    found, beaten = met_by_words(rules, plan, question), set()
    while True:
        more = {position for position in found - beaten if falls(rules, plan, question, position, beaten)}
        if not more:
            return beaten
        beaten |= more


def falls(rules, plan, question, position, beaten):
    """Whether a move leads from a position to beaten ones alone, or to bad steps."""
    role, done = position[:2]
    if role == "rest":
        return any((demand, 0, *position[2:]) in beaten for demand in ROLES)
    after = [step_by_words(rules, plan, question, position, word) for word in due(plan, position)]
    return (all(place is None or place in beaten for place in after)
            or done >= 1 and ("rest", 0, *position[2:]) in beaten)


def record_by_words(records, rules, place, saying):
    """The record that a step writes behind records, for the name "a"."""
    if saying is None:
        return {"put": ("head", "a", FILE), "strike": ("strike", "a"), "other": ("head", "b", FILE)}[place[0]]
    line = line_of(records, "a")
    entries = {"shown": state_behind(rules[0], line)[1],
               "newest": max([entry for event, entry in line if event == "head"], default=0)}
    if saying in entries:
        return ("list", (("a", len(records) + 1 - entries[saying]),))
    return ("list", (("a", 0),) if saying == "struck" else ())


def place_by_lines(rules, records, name, role="rest", done=0):
    """The position of a name behind records, None if the readers do not show the same for it."""
    line = line_of(records, name)
    states = [state_behind(rule, line) for rule in rules]
    if len({shown for _, shown, _ in states}) > 1:
        return None
    newest = max([entry for event, entry in line if event == "head"], default=0)
    return position_by_words(role, done, states[0][1], newest, [(mode, kept) for mode, _, kept in states])


def stray_by_words(rules, rests, records):
    """Why point 23 does not let records stand at their last one: the least name, "", or None if it lets them."""
    for name in [*names_in(records), "no/such name"]:
        if place_by_lines(rules, records, name) not in rests:
            return name if name != "no/such name" else ""
    return None


def list_by_words(rules, words, records, role, name, done):
    """The list that a keeper writes behind records, in an edit of a name, by the words of points 17 and 23."""
    items = []
    for other in names_in(records):
        mine = role if other == name or role == "mend" else "other"
        saying = words[place_by_lines(rules, records, other, mine, done)][0]
        line = line_of(records, other)
        entries = {"shown": state_behind(rules[0], line)[1],
                   "newest": max([entry for event, entry in line if event == "head"], default=0)}
        if saying != "absent":
            items.append((other, 0 if saying == "struck" else len(records) + 1 - entries[saying]))
    return ("list", tuple(items))


def edited_by_words(rules, plan, words, records, role, name, own, steps):
    """The records behind an edit of which so many steps are done, own its own one; all steps if None."""
    for done, sign in enumerate(("L" if role == "mend" else plan)[:steps]):
        record = own if sign == "E" else list_by_words(rules, words, records, role, name, done)
        records = [*records, record]
    return records
