"""Groups: silences of one member among at most so many that ever come.

Ahead of a silence no member has to go and the router hears all answers: who is there may still be
of use, lose whatever answers there are, and go later. So a node of the time ahead is a tuple
(phase, there), with the ascending tuple of the pairs of all members. In a silence a key is a tuple
(phase, state, lost, deaf, fresh, others): the pair of the watched member, the beats with answers
that the router lost, how many members never came, and the ascending tuple of the pairs of the
others that are there.
"""

from oneforall.graphs import all_following, greatest_of_all
from oneforall.pairs import COMING, hearings, next_pair, some_speak, speaks


def outcomes(rule, asked, pairs, answered):
    """Return a dict of the ascending tuples of the pairs behind a beat, each with what all heard.

    `answered` tells for each of the pairs whether there are answers of others.
    """
    found = {(): ()}
    for pair, some in zip(pairs, answered):
        moves = [(next_pair(rule, pair, asked, asking, answer), (asking, answer))
                 for asking, answer in hearings(rule, pair, asked, some)]
        found = {tuple(sorted(behind + (after,))): found[behind] + (heard,)
                 for behind in found for after, heard in moves}
    return found


def others_speak(rule, pairs, answered):
    """Return for each of the pairs whether others have answers for it: any, or one with another of the pairs."""
    many = len([pair for pair in pairs if speaks(rule, pair)])
    return [answered or many > (1 if speaks(rule, pair) else 0) for pair in pairs]


def steps_ahead(rule, number, node):
    """Return a dict of the nodes that follow a node, each with what all hear, those that come last."""
    phase, there = node
    found = {}
    for comings in range(number - len(there) + 1):
        pairs = there + (COMING,) * comings
        told = outcomes(rule, phase == 0, pairs, others_speak(rule, pairs, False))
        for behind in told:
            found[((phase + 1) % rule.every, behind)] = told[behind]
    return found


def nodes_ahead(rule, number):
    """Return a dict of all nodes, each with the one ahead of it on a shortest way, None for the first."""
    first = (0, ())
    ahead = {first: None}
    waiting = [first]
    while waiting:
        found = []
        for node in waiting:
            for behind in steps_ahead(rule, number, node):
                if behind not in ahead:
                    ahead[behind] = node
                    found.append(behind)
        waiting = found
    return ahead


def group_beginnings(rule, number, nodes):
    """Return a dict of the keys in which a silence begins, or has begun, each with a tuple (node, comes).

    `comes` is whether the watched member comes then; if not, it is one of those of the node. If its
    silence has begun before, it is only longer, and counted from another key.
    """
    found = {}
    for node in nodes:
        phase, there = node
        fresh = number - len(there)
        if fresh > 0:
            found.setdefault((phase, 0, 0, 0, fresh - 1, there), (node, True))
        for index, (state, lost) in enumerate(there):
            others = there[:index] + there[index + 1:]
            found.setdefault((phase, state, lost, 0, fresh, others), (node, False))
    return found


def scenes(rule, key):
    """Return the list of the tuples (leave, comings) of what others may do ahead of the asking.

    It is enough that those that speak all leave or all stay: one that stays beside answers of
    others may leave when it speaks again, and quiet ones may stay whatever comes.
    """
    _, _, _, _, fresh, others = key
    choices = [False]
    if some_speak(rule, others):
        choices.append(True)
    return [(leave, comings) for leave in choices for comings in range(fresh + 1)]


def staying(rule, others, leave):
    """Return the tuple of the pairs of those that stay, if those that speak leave or not."""
    return tuple([pair for pair in others if not leave or not speaks(rule, pair)])


def group_steps(rule, key):
    """Return a dict of the keys that follow a key in the same silence.

    Each has a tuple (leave, hearing, heard): whether those that speak leave, and what the watched
    member and the others hear, those that come last.
    """
    phase, state, lost, deaf, fresh, others = key
    asked = phase == 0
    watched = (state, lost)
    answers = speaks(rule, watched)
    found = {}
    for leave, comings in scenes(rule, key):
        pairs = staying(rule, others, leave) + (COMING,) * comings
        others_answer = some_speak(rule, pairs)
        answered = answers or others_answer
        if answered and deaf >= rule.losses:
            continue
        told = outcomes(rule, asked, pairs, others_speak(rule, pairs, answers))
        for asking, answer in hearings(rule, watched, asked, others_answer):
            after = next_pair(rule, watched, asked, asking, answer)
            begin = ((phase + 1) % rule.every,) + after + (deaf + 1 if answered else deaf, fresh - comings)
            for behind in told:
                found.setdefault(begin + (behind,), (leave, (asking, answer), told[behind]))
    return found


def group_graph(rule, first):
    """Return a dict of what follows each key that is one of the first or follows."""
    return all_following(list(first), lambda key: list(group_steps(rule, key)))


def group_silence(rule, number):
    """Return the greatest number of beats of a silence among so many members, or None if there is none."""
    first = group_beginnings(rule, number, nodes_ahead(rule, number))
    return greatest_of_all(group_graph(rule, first))
