"""The state that a reader has for one name, a tuple (mode, shown, kept), and the one after an event."""

BEGINNING = (0, 0, 0)


def after_event(rule, state, event, entry):
    """The state after an event in the line of the name; entry is the new or the named one."""
    mode, shown, kept = state
    entries = {"s": shown, "k": kept, "o": 0}
    if event == "head":
        entries["n"] = entry
    if event == "named":
        entries["x"] = entry
    _, row = rule(mode, event, entries)
    return row[1], entries[row[2]], entries[row[3]]
