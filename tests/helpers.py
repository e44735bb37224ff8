"""What several tests need: rules and weavings that are drawn, and a second, plainer account of [5] to [7]."""

import itertools
import random

from oneforall.rules import Rule

ALWAYS = Rule(1, 0, [(True, 0, 0, 0, 0)])
NEVER = Rule(1, 0, [(False, 0, 0, 0, 0)])
WAITS = Rule(2, 1, [(False, 0, 1, 0, 0), (True, 0, 0, 0, 0)])
STILL = Rule(1, 0, [(False, 0, 1, 0, 1), (False, 2, 2, 0, 0), (True, 0, 1, 0, 1)])
HEARD = Rule(1, 0, [(True, 0, 0, 1, 1), (False, 1, 1, 1, 1)])
FEW = Rule(1, 0, [(True, 0, 1, 0, 1), (False, 0, 0, 0, 2), (False, 0, 0, 0, 3), (False, 3, 3, 3, 3)])
KNOWN = [ALWAYS, NEVER, WAITS, STILL, HEARD, FEW]

FRESH = "fresh"
GONE = "gone"


def drawn_rule(draw, states, every, losses):
    """A rule of so many states, with at most these numbers."""
    often = draw.choice([0.0, 0.3, 0.5, 0.7, 1.0])
    rows = [(draw.random() < often,) + tuple(draw.randrange(states) for _ in range(4)) for _ in range(states)]
    return Rule(draw.randint(1, every), draw.randint(0, losses), rows)


def drawn_rules(seed, many, states=4, every=3, losses=1):
    draw = random.Random(seed)
    return [drawn_rule(draw, draw.randint(1, states), every, losses) for _ in range(many)]


def told_of(rule):
    """A rule in words, for the message of a test."""
    return (rule.every, rule.losses, rule.states)


def lists_in(thing):
    """All lists in a value, itself too."""
    found = [thing] if isinstance(thing, list) else []
    if isinstance(thing, (list, tuple)):
        for part in thing:
            found += lists_in(part)
    return found


def members_of(weaving):
    return sorted({member for comes, _, _, _ in weaving for member in comes})


def drawn_weaving(draw, rule, beats, most=9999, deaf_too=True):
    """A weaving that is let, and what `replay` has to tell of it."""
    there, lost, deaf_beats, fresh = {}, {}, 0, 0
    weaving, expected = [], []
    for number in range(beats):
        comes = list(range(fresh, min(most, fresh + draw.choice([0, 0, 1, 2]))))
        fresh += len(comes)
        there.update({member: 0 for member in comes})
        lost.update({member: 0 for member in comes})
        goes = [member for member in there if draw.random() < 0.1]
        for member in goes:
            del there[member]
        answers = sorted(member for member in there if rule.states[there[member]][0])
        deaf = deaf_too and draw.random() < 0.5 and (not answers or deaf_beats < rule.losses)
        if answers:
            deaf_beats = deaf_beats + 1 if deaf else 0
        losses = []
        for member in there:
            place = 1
            if number % rule.every == 0:
                if lost[member] < rule.losses and draw.random() < 0.5:
                    lost[member] += 1
                    losses.append((member, "asking"))
                else:
                    lost[member] = 0
                    place += 1
            if [other for other in answers if other != member]:
                if draw.random() < 0.5:
                    losses.append((member, "answer"))
                else:
                    place += 2
            there[member] = rule.states[there[member]][place]
        draw.shuffle(losses)
        weaving.append((comes, goes, deaf, losses))
        expected.append((answers, bool(answers) and not deaf, sorted(there.items())))
    return weaving, expected


def ways_of(there):
    """All that a member may be in a beat, by what it was ahead of it."""
    if there == FRESH:
        return [FRESH, GONE, (0, 0)]
    return [GONE] if there == GONE else [there, GONE]


def ends_of(rule, phase, there, others):
    """All pairs of a member behind a beat, if others answer or not."""
    if there in (FRESH, GONE):
        return [there]
    state, lost = there
    heard = [(0, lost)]
    if phase == 0:
        heard = [(1, 0)] + [(0, lost + 1)] * (lost < rule.losses)
    return [(rule.states[state][1 + asking + 2 * answer], left)
            for asking, left in heard for answer in range(1 + others)]


def beats_of(rule, place):
    """All beats behind a place (phase, deaf, members), as (members in the beat, heard, place behind)."""
    phase, deaf, members = place
    found = set()
    for there in itertools.product(*[ways_of(member) for member in members]):
        answers = [index for index, member in enumerate(there) if isinstance(member, tuple)
                   and rule.states[member[0]][0]]
        others = [bool(set(answers) - {index}) for index in range(len(there))]
        ends = list(itertools.product(*[ends_of(rule, phase, member, others[index])
                                        for index, member in enumerate(there)]))
        for lost in [False] + [True] * (answers != [] and deaf < rule.losses):
            deaf_behind = deaf + 1 if lost else (0 if answers else deaf)
            for end in ends:
                found.add((there, answers != [] and not lost, ((phase + 1) % rule.every, deaf_behind, end)))
    return found


def plain_silence(rule, members):
    """The silence for so many members, by trying whatever each of them may do in each beat."""
    first = (0, 0, (FRESH,) * members)
    beats = {}
    waiting = [first]
    while waiting:
        place = waiting.pop()
        if place not in beats:
            beats[place] = beats_of(rule, place)
            waiting += [behind for _, _, behind in beats[place]]
    begin = {place for place in beats if place[2][0] == FRESH}
    begin.update(behind for place in beats for there, heard, behind in beats[place]
                 if heard and isinstance(there[0], tuple))
    goes_on = {place: {behind for there, heard, behind in beats[place] if isinstance(there[0], tuple) and not heard}
               for place in beats}
    lasting, before, number = set(beats), None, 0
    # In each round those stay from which a silence has one beat more.
    while lasting & begin:
        if lasting == before:
            return None
        before = lasting
        lasting = {place for place in beats if goes_on[place] & lasting}
        number += 1
    return number - 1
