"""Tails: what is shown of a name, its newest entry, and a tuple (mode, kept) for each rule, as positions end."""

from twolistings.states import after_event


def entries_of(tail):
    """The entries of a tail, in the order in which a position numbers them."""
    shown, newest, readers = tail
    return [shown, newest] + [kept for _, kept in readers]


def with_entries(tail, entries):
    """The tail with other entries, in the same order."""
    modes = [mode for mode, _ in tail[2]]
    return entries[0], entries[1], tuple(zip(modes, entries[2:]))


def tail_after(rules, tail, event, entry):
    """The tail after an event, the entries as they are handed in; None if the readers part."""
    shown, newest, readers = tail
    states = [after_event(rule, (mode, shown, kept), event, entry) for rule, (mode, kept) in zip(rules, readers)]
    shown = states[0][1]
    if any([state[1] != shown for state in states]):
        return None
    return shown, entry if event == "head" else newest, tuple([(mode, kept) for mode, _, kept in states])
