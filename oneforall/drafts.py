"""Drafts: plans of silences beside any number of members, made from their last beat to their first one.

What is needed behind a beat tells what is needed ahead of it, until all that are needed come.
"""

from oneforall.pairs import COMING, hearings, next_pair, some_speak, speaks
from oneforall.plans import planned_weaving
from oneforall.tables import endless, pairs_behind, quiet_steps, staying_others, standing_steps, with_coming

WATCHED = 0


class Draft:
    """The plan of the last beats, the very last one first, and what is needed ahead of them.

    `needed` has the pair of each other member that has to be there, and `many` is how many
    numbers of members are in use.
    """

    def __init__(self, rule):
        self.rule = rule
        self.many = 1
        self.needed = {}
        self.plan = []


def add_beat(draft, asked, pairs, answered):
    """Add the beat ahead, in which members have some of these pairs and may hear answers or not."""
    heard = {}
    ahead = {}
    for member in draft.needed:
        origin, hearing = origin_of(draft.rule, draft.needed[member], asked, pairs, answered)
        heard[member] = hearing
        if origin != COMING:
            ahead[member] = origin
    draft.needed = ahead
    draft.plan.append(heard)


def origin_of(rule, wanted, asked, pairs, answered):
    """Return one of the pairs from which a member can go on to a wanted one, and what it hears then."""
    found = []
    for pair in pairs:
        for asking, answer in hearings(rule, pair, asked, answered):
            if next_pair(rule, pair, asked, asking, answer) == wanted:
                # Who hears an answer needs another member, so this is the last choice.
                found.append((answer, pair != COMING, pair, asking))
    answer, _, origin, asking = min(found)
    return origin, (asking, answer)


def add_answer(draft, pairs):
    """Let one more member, with one of these pairs, answer in the beat that was added last."""
    member = draft.many
    draft.many += 1
    # It hears whatever there is and goes in the beat behind, so what it hears does not matter.
    draft.plan[-1][member] = (True, True)
    if not speaks(draft.rule, COMING):
        draft.needed[member] = [pair for pair in pairs if speaks(draft.rule, pair)][0]


def some_hear(heard):
    """Tell whether some member of a beat of a plan hears answers."""
    return any([heard[member][1] for member in heard])


def add_silence(draft, way):
    """Add the beats of a silence that goes from standing to standing, all as keys."""
    rule = draft.rule
    for index in reversed(range(len(way) - 1)):
        others_answer, asking, answer = standing_steps(rule, way[index])[way[index + 1]]
        phase, state, _, _, others = way[index]
        pairs = staying_others(rule, others, others_answer)
        add_beat(draft, phase == 0, pairs, others_answer or speaks(rule, (state, 0)))
        draft.plan[-1][WATCHED] = (asking, answer)
        if others_answer:
            add_answer(draft, pairs)


def add_quiet(draft, places):
    """Add the beats in which the watched member alone goes from place to place, while nobody answers."""
    for index in reversed(range(len(places) - 1)):
        asking = asking_between(draft.rule, places[index], places[index + 1])
        draft.plan.append({WATCHED: (asking, False)})


def asking_between(rule, place, after):
    """Tell whether a member hears the asking that goes on from a place to another one."""
    return [asking for asking, behind in quiet_steps(rule, place) if behind == after][0]


def company_ahead(draft, phase):
    """Return the lists of pairs in which members may be ahead of each beat, if nobody is there ahead of beat 0.

    The last one is for a beat of the phase and has all that are needed.
    """
    rule = draft.rule
    wanted = [draft.needed[member] for member in draft.needed]
    lists = [[]]
    while True:
        number = len(lists) - 1
        if number % rule.every == phase and all([pair in lists[number] for pair in wanted]):
            return lists
        pairs = with_coming(lists[number])
        lists.append(pairs_behind(rule, pairs, number % rule.every == 0, some_speak(rule, pairs)))


def add_company(draft, phase):
    """Add the beats from 0 up to one of the phase, so that all that are needed come, and return how many."""
    rule = draft.rule
    lists = company_ahead(draft, phase)
    many = len(lists) - 1
    for number in reversed(range(many)):
        pairs = with_coming(lists[number])
        add_beat(draft, number % rule.every == 0, pairs, some_speak(rule, pairs))
        if some_hear(draft.plan[-1]):
            add_answer(draft, pairs)
    return many


def drafted_weaving(draft, phase):
    """Return the weaving of a draft, to which the beats up to one of the phase are added."""
    first = add_company(draft, phase)
    return planned_weaving(draft.rule, draft.plan[::-1], first)


def silent_weaving(rule, way):
    """Return a weaving in which a member has a silence that goes from standing to standing, all as keys."""
    draft = Draft(rule)
    add_silence(draft, way)
    phase, state, lost, _, _ = way[0]
    # Who does not come just now came before. A silence that has begun by then is only longer.
    if (state, lost) != COMING:
        draft.needed[WATCHED] = (state, lost)
    return drafted_weaving(draft, phase)


def quiet_way(rule, beats):
    """Return the places of a member that is quiet for so many beats, if it may be so for ever."""
    kept = endless(rule)
    places = [kept[0]]
    for _ in range(beats):
        places.append([behind for asking, behind in quiet_steps(rule, places[-1]) if behind in kept][0])
    return places


def quiet_weaving(rule, places):
    """Return a weaving in which a member goes from place to place at its end, while nobody answers."""
    draft = Draft(rule)
    add_quiet(draft, places)
    phase, state, lost = places[0]
    draft.needed[WATCHED] = (state, lost)
    return drafted_weaving(draft, phase)
