"""Graphs: what follows what, step by step, and for how long."""


def all_following(first, follow):
    """Return a dict of what follows each key that is one of the first or follows, step by step.

    `follow` is a function that returns the list of what follows a key, each once.
    """
    found = {}
    waiting = list(first)
    while waiting:
        key = waiting.pop()
        if key not in found:
            found[key] = follow(key)
            waiting.extend(found[key])
    return found


def all_ahead(follows):
    """Return a dict of the keys which each key follows."""
    ahead = {key: [] for key in follows}
    for key in follows:
        for after in follows[key]:
            ahead[after].append(key)
    return ahead


def greatest_numbers(follows):
    """Return a dict of the greatest number of steps that go on from each key.

    A key from which the steps may go on for ever is not in it: it waits for a number in vain.
    """
    ahead = all_ahead(follows)
    left = {key: len(follows[key]) for key in follows}
    ready = [key for key in follows if left[key] == 0]
    numbers = {}
    while ready:
        key = ready.pop()
        numbers[key] = max([numbers[after] + 1 for after in follows[key]], default=0)
        for before in ahead[key]:
            left[before] -= 1
            if left[before] == 0:
                ready.append(before)
    return numbers


def greatest_of_all(follows):
    """Return the greatest number of steps that go on from any key, or None if there is no greatest."""
    numbers = greatest_numbers(follows)
    if len(numbers) < len(follows):
        return None
    return max([numbers[key] for key in numbers])


def lasting(numbers, keys, steps):
    """Return the list of those of the keys from which at least so many steps go on."""
    return [key for key in keys if key not in numbers or numbers[key] >= steps]


def long_way(follows, first, steps):
    """Return a list of keys that has so many steps and begins with one of the first ones, None if there is none."""
    numbers = greatest_numbers(follows)
    keys = lasting(numbers, first, steps)
    if len(keys) == 0:
        return None
    way = [keys[0]]
    for left in reversed(range(steps)):
        way.append(lasting(numbers, follows[way[-1]], left)[0])
    return way
