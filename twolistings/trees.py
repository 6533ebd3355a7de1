"""Trees: names whose parents are folders, links that are followed, and orders with parents ahead."""

from twolistings.archives import is_name
from twolistings.errors import BadName, BadOrder

FOLDER = ("folder",)


def _above(name):
    """The parent of a name that is known to be one, None if it has none."""
    return name.rpartition("/")[0] or None


def parent(name):
    """The name without its last part, None if it has one part alone."""
    if not is_name(name):
        raise BadName()
    return _above(name)


def has_folder(table, name):
    """Whether a name has no parent, or one that is a folder in a table."""
    return _above(name) is None or table.get(_above(name)) == FOLDER


def first_unclean(table):
    """The least name whose parent is no folder in a table, None if there is none."""
    return min([name for name in table if not has_folder(table, name)], default=None)


def _next_need(table, path, known):
    """What a path needs next that is not known, or else its place, "" if it is missing: a tuple (need, place)."""
    above = _above(path)
    place = path
    if above is not None:
        if above not in known:
            return above, ""
        if table.get(known[above]) != FOLDER:
            return None, ""
        place = known[above] + "/" + path.rpartition("/")[2]
    if place not in table:
        return None, ""
    if table[place][0] != "link":
        return None, place
    target = table[place][1]
    return (None, known[target]) if target in known else (target, "")


def answer(table, path):
    """("place", place) of a path, links followed, or ("missing", ""), or ("round", "")."""
    if not is_name(path):
        raise BadName()
    # The places that are known, "" for a path that is missing, and the way on which each path needs the next one.
    known = {}
    way = [path]
    passed = {path: True}
    while way:
        here = way[-1]
        need, place = _next_need(table, here, known)
        if need is None:
            known[here] = place
            way.pop()
            del passed[here]
        elif need in passed:
            return "round", ""
        else:
            way.append(need)
            passed[need] = True
    return ("place", known[path]) if known[path] else ("missing", "")


def by_parts(table):
    """The list of the names of a table, by number of parts, then ascending."""
    return sorted(table, key=lambda name: (name.count("/"), name))


def _is_order(table, value):
    """Whether a value, of any value, is a list of all names of a table, each once."""
    if not isinstance(value, list) or len(value) != len(table):
        return False
    if not all([isinstance(name, str) and name in table for name in value]):
        return False
    return len(set(value)) == len(value)


def order_keeps(table, order):
    """None if in an order each name stands behind its parent, a folder, else the first place where it does not."""
    if not _is_order(table, order):
        raise BadOrder()
    behind = {}
    for at, name in enumerate(order):
        # As a table behind the names, they hold a folder at the parent exactly if it stands there and is one.
        if not has_folder(behind, name):
            return at
        behind[name] = table[name]
    return None
