"""Tables: who may be beside a member, and for how long it may be silent then."""

from oneforall.pairs import COMING, next_pair, speaks


def moves(rule, pair, asked, answered):
    """Return the pairs in which a member may be behind a beat, whatever it hears and loses."""
    askings = [asked]
    if asked and pair[1] < rule.losses:
        askings = [True, False]
    answers = [False]
    if answered:
        answers = [True, False]
    return [next_pair(rule, pair, asked, asking, answer) for asking in askings for answer in answers]


def pairs_behind(rule, pairs, asked, answered):
    """Return the ascending list of the pairs in which members with these pairs may be behind a beat."""
    return sorted({after for pair in pairs for after in moves(rule, pair, asked, answered)})


def with_coming(pairs):
    """Return the ascending list of these pairs and of that of a member that comes."""
    return sorted(set(list(pairs) + [COMING]))


def some_speak(rule, pairs):
    """Tell whether some member with one of these pairs answers."""
    return any([speaks(rule, pair) for pair in pairs])


def company(rule):
    """Return for each phase the ascending list of the pairs in which members may be ahead of a beat."""
    found = [[] for phase in range(rule.every)]
    grown = True
    while grown:
        grown = False
        for phase in range(rule.every):
            after = (phase + 1) % rule.every
            pairs = with_coming(found[phase])
            behind = pairs_behind(rule, pairs, phase == 0, some_speak(rule, pairs))
            more = sorted(set(found[after] + behind))
            if len(more) > len(found[after]):
                found[after] = more
                grown = True
    return found


def as_key(standing):
    """Return a standing with a tuple of the others, so that it can be a key."""
    phase, state, lost, deaf, others = standing
    return (phase, state, lost, deaf, tuple(others))


def as_standing(key):
    """Return a key as a standing, with a new list of the others."""
    phase, state, lost, deaf, others = key
    return (phase, state, lost, deaf, list(others))


def beginning_keys(rule):
    """Return the ascending list of the beginnings as keys."""
    lists = company(rule)
    found = {}
    for phase in range(rule.every):
        others = tuple(lists[phase])
        found[(phase, 0, 0, 0, others)] = True
        if some_speak(rule, with_coming(lists[phase - 1])):
            for state, lost in others:
                found[(phase, state, lost, 0, others)] = True
    return sorted(found)


def beginnings(rule):
    """Return the ascending list of the standings in which a silence may begin."""
    return [as_standing(key) for key in beginning_keys(rule)]


def following_keys(rule, key):
    """Return the ascending list of what may follow a standing in the same silence, all as keys."""
    phase, state, lost, deaf, others = key
    asked = phase == 0
    watched = (state, lost)
    answers = speaks(rule, watched)
    pairs = with_coming(others)
    quiet = [pair for pair in pairs if not speaks(rule, pair)]
    choices = [(False, quiet)]
    if len(quiet) < len(pairs):
        choices.append((True, pairs))
    found = {}
    for others_answer, there in choices:
        answered = answers or others_answer
        if answered and deaf >= rule.losses:
            continue
        behind = tuple(pairs_behind(rule, there, asked, answered))
        deaf_behind = deaf + 1 if answered else deaf
        for after, count in moves(rule, watched, asked, others_answer):
            found[((phase + 1) % rule.every, after, count, deaf_behind, behind)] = True
    return sorted(found)


def following(rule, standing):
    """Return the ascending list of the standings that may follow one in the same silence."""
    return [as_standing(key) for key in following_keys(rule, as_key(standing))]


def all_following(rule):
    """Return a dict of what follows each standing that is a beginning or follows, all as keys."""
    found = {}
    waiting = beginning_keys(rule)
    while waiting:
        key = waiting.pop()
        if key not in found:
            found[key] = following_keys(rule, key)
            waiting.extend(found[key])
    return found


def all_ahead(follows):
    """Return a dict of the keys which each key follows."""
    ahead = {key: [] for key in follows}
    for key in follows:
        for after in follows[key]:
            ahead[after].append(key)
    return ahead


def greatest_numbers(follows):
    """Return a dict of the greatest number of steps that go on from each key.

    A key from which the steps may go on for ever is not in it: it waits for a number in vain.
    """
    ahead = all_ahead(follows)
    left = {key: len(follows[key]) for key in follows}
    ready = [key for key in follows if left[key] == 0]
    numbers = {}
    while ready:
        key = ready.pop()
        numbers[key] = max([numbers[after] + 1 for after in follows[key]], default=0)
        for before in ahead[key]:
            left[before] -= 1
            if left[before] == 0:
                ready.append(before)
    return numbers


def table(rule):
    """Return the ascending list of the tuples (standing, number), or None if some number has no bound."""
    follows = all_following(rule)
    numbers = greatest_numbers(follows)
    if len(numbers) < len(follows):
        return None
    return [(as_standing(key), numbers[key]) for key in sorted(numbers)]


def judge(rule, told):
    """Tell whether a list of tuples (standing, number) proves that the numbers are bounds."""
    numbers = {}
    for standing, number in told:
        key = as_key(standing)
        if number < 0 or key in numbers:
            return False
        numbers[key] = number
    if any([key not in numbers for key in beginning_keys(rule)]):
        return False
    return all([falls(numbers, key, following_keys(rule, key)) for key in numbers])


def falls(numbers, key, follows):
    """Tell whether all that follow a key have a number, which is less than its own."""
    return all([after in numbers and numbers[after] < numbers[key] for after in follows])


def endless(rule):
    """Return the ascending list of the (phase, state, lost) with which a member may be quiet for ever."""
    kept = {}
    for phase, pairs in enumerate(company(rule)):
        for pair in pairs:
            if not speaks(rule, pair):
                kept[(phase, pair[0], pair[1])] = True
    many = -1
    while many != len(kept):
        many = len(kept)
        kept = {place: True for place in kept if stays_quiet(rule, kept, place)}
    return sorted(kept)


def stays_quiet(rule, kept, place):
    """Tell whether a member may go on to a kept place in a beat in which nobody answers."""
    phase, state, lost = place
    behind = (phase + 1) % rule.every
    return any([(behind, after, count) in kept for after, count in moves(rule, (state, lost), phase == 0, False)])
