"""The game of writers and attackers: where moves lead, which positions are beaten, and books that avoid these."""

from twolistings.closures import reached
from twolistings.edits import DEMANDS, is_at_list
from twolistings.positions import demanded, sayings, start, step, stopped


def words_at(plan, position):
    """What can be said at the next step: the allowed sayings in a list, None with the own record."""
    return sayings(position) if is_at_list(plan, position) else (None,)


def afters(rules, plan, question, position, words):
    """What comes from a position by demands, stops and steps with these sayings; None stands for a bad step."""
    if position[0] == "rest":
        return [demanded(position, role) for role in DEMANDS]
    told = words if is_at_list(plan, position) else (None,)
    steps = [step(rules, plan, question, position, word) for word in told]
    return [*steps, stopped(position)] if position[1] > 0 else steps


def moves_at(position):
    """The moves of an attacker at a position."""
    if position[0] == "rest":
        return DEMANDS
    return ("stop", "go") if position[1] > 0 else ("go",)


def led(rules, plan, question, position, move):
    """The positions to which one of its moves can lead; steps that are bad lead to none."""
    if position[0] == "rest":
        return [demanded(position, move)]
    if move == "stop":
        return [stopped(position)]
    steps = [step(rules, plan, question, position, word) for word in words_at(plan, position)]
    return [after for after in steps if after is not None]


def graph_of(rules, plan, question):
    """A dict from each met position to one from each of its moves to where it leads."""
    graph = {}
    left = [start(rules)]
    while left:
        here = left.pop()
        if here not in graph:
            graph[here] = {move: led(rules, plan, question, here, move) for move in moves_at(here)}
            left.extend([after for ways in graph[here].values() for after in ways])
    return graph


def lost_in(graph):
    """A dict from each beaten position to its move; each move leads to positions that stand ahead of it."""
    lost = {}
    before = -1
    while len(lost) > before:
        before = len(lost)
        for here, moves in graph.items():
            if here not in lost:
                winning = [move for move, ways in moves.items() if all([after in lost for after in ways])]
                if winning:
                    lost[here] = winning[0]
    return lost


def defeat_of(graph, lost, first):
    """The warnings that the play from a beaten position can come to, and no others."""
    rows = reached(first, lambda at: graph[at][lost[at]])
    played = {here for here, _ in rows}
    return [(here, move) for here, move in lost.items() if here in played]


def safe_words(rules, plan, question, lost, position):
    """The sayings of a position of which the step is neither bad nor leads to a beaten position."""
    if not is_at_list(plan, position):
        return ()
    steps = [(word, step(rules, plan, question, position, word)) for word in sayings(position)]
    return tuple([word for word, after in steps if after is not None and after not in lost])


def book_by(rules, plan, question, choose):
    """The book with the sayings that a function tells for each position; none of their steps is bad."""
    rows = reached(start(rules), lambda at: afters(rules, plan, question, at, choose(at)))
    return [(here, choose(here)) for here, _ in rows]


def greatest(rules, plan, question, lost):
    """The book with each safe saying, where the start is not beaten."""
    return book_by(rules, plan, question, lambda at: safe_words(rules, plan, question, lost, at))
