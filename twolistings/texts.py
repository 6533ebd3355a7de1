"""Texts: archives written as strings, and three readers of these."""

from twolistings.archives import Archive
from twolistings.errors import BadRecord, BadText
from twolistings.readers import table_of, things
from twolistings.rules import Rule

# In names, texts and targets these stand behind "^" for the signs that mark where something ends.
SIGNS = {"1": "^", "2": ";", "3": ":", "4": ","}
MARKS = {"file": "f", "link": "l"}
KINDS = {"f": "file", "l": "link"}
DIGITS = "0123456789"


def _marked(text):
    """How a name, a text or a target is written."""
    for digit, sign in SIGNS.items():
        text = text.replace(sign, "^" + digit)
    return text


def _unmarked(text):
    """The name, text or target that is written so, None if none is."""
    if ":" in text or "," in text:
        return None
    first, *others = text.split("^")
    if not all([part[:1] in SIGNS for part in others]):
        return None
    return first + "".join([SIGNS[part[0]] + part[1:] for part in others])


def _shown(record, number, starts):
    """How the record with this number is written, without the end; starts are those of the records, up to its own."""
    kind, told = record[:2]
    if kind == "strike":
        return "s" + _marked(told)
    if kind == "head":
        thing = record[2]
        return "h" + _marked(told) + ":" + ("d" if thing == ("folder",) else MARKS[thing[0]] + _marked(thing[1]))
    distances = [starts[number - 1] - starts[number - back - 1] for _, back in told]
    return "l" + ",".join([f"{_marked(name)}:{far}" for (name, _), far in zip(told, distances)])


def show(archive):
    """The text of an archive."""
    parts = []
    starts = [0]
    for number, record in enumerate(archive.records, start=1):
        part = _shown(record, number, starts) + ";"
        parts.append(part)
        starts.append(starts[-1] + len(part))
    return "".join(parts)


def _number(text, most):
    """The integer from 0 to most that is written so, None if none is."""
    # Looked at by length first: Python reads no integer of thousands of digits.
    if text == "" or len(text) > len(str(most)) or not all([digit in DIGITS for digit in text]):
        return None
    if text[0] == "0" and text != "0" or int(text) > most:
        return None
    return int(text)


def _head(told):
    """The head that is written so behind its "h", None if none is."""
    parts = told.split(":")
    if len(parts) != 2:
        return None
    name, thing = _unmarked(parts[0]), _unmarked(parts[1])
    if name is None or thing is None:
        return None
    if thing == "d":
        return "head", name, ("folder",)
    return ("head", name, (KINDS[thing[0]], thing[1:])) if thing[:1] in KINDS else None


def _item(told, at, numbers):
    """The item that is written so in a list, None if none is; numbers tell the record that begins at a place."""
    parts = told.split(":")
    if len(parts) != 2:
        return None
    name, far = _unmarked(parts[0]), _number(parts[1], at)
    if name is None or far is None or at - far not in numbers:
        return None
    return name, numbers[at] - numbers[at - far]


def _list(told, at, numbers):
    """The list at a place that is written so behind its "l", None if none is."""
    items = [_item(part, at, numbers) for part in told.split(",")] if told else []
    return None if None in items else ("list", tuple(items))


def _read_part(part, at, numbers):
    """The record that is written so, without its end, at a place; None if none is."""
    kind, told = part[:1], part[1:]
    if kind == "h":
        return _head(told)
    if kind == "l":
        return _list(told, at, numbers)
    name = _unmarked(told)
    return ("strike", name) if kind == "s" and name is not None else None


def _records_of(parts):
    """The records that are written so, each without its end, as far as each of them is one."""
    records = []
    numbers = {}
    at = 0
    for number, part in enumerate(parts, start=1):
        numbers[at] = number
        record = _read_part(part, at, numbers)
        if record is None:
            break
        records.append(record)
        at += len(part) + 1
    return records


def read(text):
    """The archive that a text writes."""
    if not isinstance(text, str):
        raise BadText(1)
    # A text that ends with its last record has nothing behind the last part.
    *parts, rest = text.split(";")
    records = _records_of(parts)
    try:
        archive = Archive(records)
    except BadRecord as error:
        raise BadText(error.number) from None
    if rest or len(records) < len(parts):
        raise BadText(len(records) + 1)
    return archive


def whole_part(text):
    """The beginning of a text up to its last ";"."""
    return text[:text.rfind(";") + 1]


def _told_by(rule, text):
    """The table of things that a reader with a rule tells for the whole part of a text."""
    archive = read(whole_part(text) if isinstance(text, str) else text)
    return things(archive, table_of(rule, archive))


def from_front(text):
    """The table of things that is told from the front, where a list says what a head or a strike has said, too."""
    return _told_by(Rule.checking(), text)


def from_end(text):
    """The table of things that the last list alone tells, with the heads that it names."""
    return _told_by(Rule.last_list(), text)


def by_all(text):
    """The table of things that all lists tell; of each name, the last one that speaks of it counts."""
    return _told_by(Rule.all_lists(), text)
