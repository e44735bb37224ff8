"""Casts: plans of silences among at most so many members, made beat by beat."""

from oneforall.graphs import long_way
from oneforall.groups import group_beginnings, group_graph, group_steps, nodes_ahead, staying, steps_ahead
from oneforall.pairs import COMING, next_pair
from oneforall.plans import planned_weaving


class Cast:
    """The members that are there by their numbers, each with its pair, and the plan of the beats up to now.

    `many` is how many ever came.
    """

    def __init__(self, rule):
        self.rule = rule
        self.many = 0
        self.pairs = {}
        self.plan = []


def come(cast):
    """Let one more member come, and return its number."""
    member = cast.many
    cast.many += 1
    cast.pairs[member] = COMING
    return member


def with_pairs(cast, pairs, apart):
    """Return members that have these pairs, in this order, each once, without those that are kept apart."""
    found = []
    for wanted in pairs:
        members = [member for member in cast.pairs
                   if cast.pairs[member] == wanted and member not in found + apart]
        found.append(members[0])
    return found


def fill(cast, members, many):
    """Return these members and those that come now, so many in all."""
    found = list(members)
    while len(found) < many:
        found.append(come(cast))
    return found


def hear(cast, asked, heard):
    """Add a beat to the plan, in which just these members are there and hear so much."""
    pairs = {}
    for member in heard:
        asking, answer = heard[member]
        pairs[member] = next_pair(cast.rule, cast.pairs[member], asked, asking, answer)
    cast.pairs = pairs
    cast.plan.append(heard)


def play_ahead(cast, number, way):
    """Add the beats that go from node to node."""
    for index in range(len(way) - 1):
        phase, there = way[index]
        told = steps_ahead(cast.rule, number, way[index])[way[index + 1]]
        members = fill(cast, with_pairs(cast, there, []), len(told))
        hear(cast, phase == 0, dict(zip(members, told)))


def play_silence(cast, watched, way):
    """Add the beats of a silence that goes from key to key."""
    for index in range(len(way) - 1):
        leave, hearing, told = group_steps(cast.rule, way[index])[way[index + 1]]
        phase, _, _, _, _, others = way[index]
        stay = with_pairs(cast, staying(cast.rule, others, leave), [watched])
        heard = dict(zip(fill(cast, stay, len(told)), told))
        heard[watched] = hearing
        hear(cast, phase == 0, heard)


def way_to(nodes, node):
    """Return the nodes of the way from the first one to a node."""
    way = [node]
    while nodes[way[-1]] is not None:
        way.append(nodes[way[-1]])
    return way[::-1]


def group_weaving(rule, beats, number):
    """Return a weaving of so many members in which one has a silence of so many beats, or None."""
    nodes = nodes_ahead(rule, number)
    first = group_beginnings(rule, number, nodes)
    way = long_way(group_graph(rule, first), list(first), beats)
    if way is None:
        return None
    node, comes = first[way[0]]
    cast = Cast(rule)
    play_ahead(cast, number, way_to(nodes, node))
    silent_from = len(cast.plan)
    if comes:
        watched = come(cast)
    else:
        watched = with_pairs(cast, [way[0][1:3]], [])[0]
    play_silence(cast, watched, way)
    return planned_weaving(rule, cast.plan, silent_from)
