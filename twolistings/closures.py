"""All values that come from a first one, and the ways on which they come."""


def reached(first, after):
    """The list of (value, at) of all values that come from first; at is the place of the one it comes from."""
    rows = [(first, -1)]
    seen = {first}
    at = 0
    while at < len(rows):
        # Used up before the next call of after, which may fill the same list anew.
        values = after(rows[at][0])
        for value in values:
            if value not in seen:
                seen.add(value)
                rows.append((value, at))
        at += 1
    return rows


def route(rows, at):
    """The list of the values on the way from the first tuple of such a list to the one at a place."""
    values = []
    while at >= 0:
        value, at = rows[at]
        values.append(value)
    values.reverse()
    return values
