"""Tables: who may be beside a member, and for how long it may be silent then."""

from oneforall.graphs import all_following, greatest_numbers
from oneforall.pairs import COMING, hearings, next_pair, some_speak, speaks


def moves(rule, pair, asked, answered):
    """Return the pairs in which a member may be behind a beat, whatever it hears and loses."""
    return [next_pair(rule, pair, asked, asking, answer)
            for asking, answer in hearings(rule, pair, asked, answered)]


def pairs_behind(rule, pairs, asked, answered):
    """Return the ascending list of the pairs in which members with these pairs may be behind a beat."""
    return sorted({after for pair in pairs for after in moves(rule, pair, asked, answered)})


def with_coming(pairs):
    """Return the ascending list of these pairs and of that of a member that comes."""
    return sorted(set(list(pairs) + [COMING]))


def company(rule):
    """Return for each phase the ascending list of the pairs in which members may be ahead of a beat."""
    found = [[] for phase in range(rule.every)]
    grown = True
    while grown:
        grown = False
        for phase in range(rule.every):
            after = (phase + 1) % rule.every
            pairs = with_coming(found[phase])
            behind = pairs_behind(rule, pairs, phase == 0, some_speak(rule, pairs))
            more = sorted(set(found[after] + behind))
            if len(more) > len(found[after]):
                found[after] = more
                grown = True
    return found


def as_key(standing):
    """Return a standing with a tuple of the others, so that it can be a key."""
    phase, state, lost, deaf, others = standing
    return (phase, state, lost, deaf, tuple(others))


def as_standing(key):
    """Return a key as a standing, with a new list of the others."""
    phase, state, lost, deaf, others = key
    return (phase, state, lost, deaf, list(others))


def beginning_keys(rule):
    """Return the ascending list of the beginnings as keys."""
    lists = company(rule)
    found = {}
    for phase in range(rule.every):
        others = tuple(lists[phase])
        found[(phase, 0, 0, 0, others)] = True
        if some_speak(rule, with_coming(lists[phase - 1])):
            for state, lost in others:
                found[(phase, state, lost, 0, others)] = True
    return sorted(found)


def beginnings(rule):
    """Return the ascending list of the standings in which a silence may begin."""
    return [as_standing(key) for key in beginning_keys(rule)]


def staying_others(rule, others, others_answer):
    """Return the ascending list of the pairs in which others may be in a beat, with those that come in it."""
    pairs = with_coming(others)
    if others_answer:
        return pairs
    return [pair for pair in pairs if not speaks(rule, pair)]


def standing_steps(rule, key):
    """Return what may come about in a beat of a silence, as a dict of the keys that follow.

    Each has one of the tuples (others answer, asking, answer) that lead there: whether others answer,
    and what the watched member hears.
    """
    phase, state, lost, deaf, others = key
    asked = phase == 0
    watched = (state, lost)
    found = {}
    for others_answer in (False, True):
        pairs = staying_others(rule, others, others_answer)
        answered = others_answer or speaks(rule, watched)
        if others_answer and not some_speak(rule, pairs):
            continue
        if answered and deaf >= rule.losses:
            continue
        behind = tuple(pairs_behind(rule, pairs, asked, answered))
        deaf_behind = deaf + 1 if answered else deaf
        for asking, answer in hearings(rule, watched, asked, others_answer):
            after, count = next_pair(rule, watched, asked, asking, answer)
            reached = ((phase + 1) % rule.every, after, count, deaf_behind, behind)
            found.setdefault(reached, (others_answer, asking, answer))
    return found


def following_keys(rule, key):
    """Return the ascending list of what may follow a standing in the same silence, all as keys."""
    return sorted(standing_steps(rule, key))


def following(rule, standing):
    """Return the ascending list of the standings that may follow one in the same silence."""
    return [as_standing(key) for key in following_keys(rule, as_key(standing))]


def standing_graph(rule):
    """Return a dict of what follows each standing that is a beginning or follows, all as keys."""
    return all_following(beginning_keys(rule), lambda key: following_keys(rule, key))


def table(rule):
    """Return the ascending list of the tuples (standing, number), or None if some number has no bound."""
    follows = standing_graph(rule)
    numbers = greatest_numbers(follows)
    if len(numbers) < len(follows):
        return None
    return [(as_standing(key), numbers[key]) for key in sorted(numbers)]


def judge(rule, told):
    """Tell whether a list of tuples (standing, number) proves that the numbers are bounds."""
    numbers = {}
    for standing, number in told:
        key = as_key(standing)
        if number < 0 or key in numbers:
            return False
        numbers[key] = number
    if any([key not in numbers for key in beginning_keys(rule)]):
        return False
    return all([falls(numbers, key, following_keys(rule, key)) for key in numbers])


def falls(numbers, key, follows):
    """Tell whether all that follow a key have a number, which is less than its own."""
    return all([after in numbers and numbers[after] < numbers[key] for after in follows])


def endless(rule):
    """Return the ascending list of the (phase, state, lost) with which a member may be quiet for ever."""
    kept = {}
    for phase, pairs in enumerate(company(rule)):
        for pair in pairs:
            if not speaks(rule, pair):
                kept[(phase, pair[0], pair[1])] = True
    many = -1
    while many != len(kept):
        many = len(kept)
        kept = {place: True for place in kept if stays_quiet(rule, kept, place)}
    return sorted(kept)


def stays_quiet(rule, kept, place):
    """Tell whether a member may go on to a kept place in a beat in which nobody answers."""
    return any([behind in kept for asking, behind in quiet_steps(rule, place)])


def quiet_steps(rule, place):
    """Return the list of the tuples (asking, place behind) of a member in a beat in which nobody answers."""
    phase, state, lost = place
    asked = phase == 0
    found = []
    for asking, answer in hearings(rule, (state, lost), asked, False):
        after, count = next_pair(rule, (state, lost), asked, asking, answer)
        found.append((asking, ((phase + 1) % rule.every, after, count)))
    return found
