"""Pairs: the state of a member, and how many askings it lost last, one behind the other."""

COMING = (0, 0)


def speaks(rule, pair):
    """Tell whether a member with this pair answers."""
    return rule[pair[0]][0]


def some_speak(rule, pairs):
    """Tell whether some member with one of these pairs answers."""
    return any([speaks(rule, pair) for pair in pairs])


def hearings(rule, pair, asked, answered):
    """Return the list of the tuples (asking, answer) of what a member with this pair may hear in a beat.

    `asked` is whether there is an asking, `answered` whether there are answers of others.
    """
    askings = [asked]
    if asked and pair[1] < rule.losses:
        askings = [True, False]
    answers = [False]
    if answered:
        answers = [True, False]
    return [(asking, answer) for asking in askings for answer in answers]


def next_state(state, asking, answer):
    """Return the number of the state behind one in which the asking, answers, both or nothing were heard."""
    _, on_nothing, on_asking, on_answer, on_both = state
    if asking and answer:
        return on_both
    if asking:
        return on_asking
    if answer:
        return on_answer
    return on_nothing


def next_pair(rule, pair, asked, asking, answer):
    """Return the pair behind a beat.

    `asked` is whether there is an asking, `asking` and `answer` are whether the member hears it and answers.
    """
    state, lost = pair
    after = next_state(rule[state], asking, answer)
    if not asked:
        return (after, lost)
    if asking:
        return (after, 0)
    return (after, lost + 1)
