"""Archives that are written step by step on the names "a" and "b"."""

from twolistings.archives import Archive, events_of
from twolistings.readers import Sight

EMPTY_FILE = ("file", "")


def record_of(role, saying, number, shown, newest):
    """The record with this number that a step writes; a step without a saying is the own record of the edit."""
    if saying is None:
        return {"put": ("head", "a", EMPTY_FILE), "strike": ("strike", "a"), "other": ("head", "b", EMPTY_FILE)}[role]
    if saying == "absent":
        return "list", ()
    # The distance back to the entry that is named; 0 says that the name is struck.
    back = {"struck": 0, "shown": number - shown, "newest": number - newest}[saying]
    return "list", (("a", back),)


class Page:
    """The records so far, and the entries of "a" that a saying can name."""

    def __init__(self, rule):
        self._records = []
        # While all readers show the same for "a", one of them tells what they show.
        self._sight = Sight(rule)
        self._newest = 0

    def write(self, role, saying):
        """Writes the record of a step of an edit."""
        number = len(self._records) + 1
        record = record_of(role, saying, number, self._sight.shown, self._newest)
        self._records.append(record)
        events, rest = events_of(record, number)
        event, entry = events.get("a", rest)
        self._sight.see(event, entry)
        if event == "head":
            self._newest = number

    def as_archive(self):
        """The archive of the records so far."""
        return Archive(self._records)
