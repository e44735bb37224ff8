"""Weavings: who comes and goes and what is lost, beat by beat, and what comes of it."""

from oneforall.errors import TooManyLost, UnknownMember
from oneforall.pairs import COMING, next_pair, speaks

ASKING = "asking"
ANSWER = "answer"


class Course:
    """How things stand ahead of a beat.

    A course and its dicts never change, since a beat that raises an error must leave no trace.
    `came` has the members that ever came, `pairs` the pairs of those that are there, and `deaf`
    is in how many beats with answers the router lost them last.
    """

    def __init__(self, number, came, pairs, deaf):
        self.number = number
        self.came = came
        self.pairs = pairs
        self.deaf = deaf


def first_course():
    """Return the course ahead of beat 0."""
    return Course(0, {}, {}, 0)


def do_beat(rule, course, beat):
    """Return the tuple (answers, heard, states) of a beat, and the course behind it."""
    comes, goes, deaf, lost = beat
    came = all_that_came(course, comes)
    pairs = pairs_in_beat(course, comes, goes)
    check_losers(pairs, lost)
    asked = course.number % rule.every == 0
    answering = all_answering(rule, pairs)
    missed = losses_in_beat(rule, pairs, asked, answering, lost)
    deaf_behind = deaf_beats(rule, course, answering, deaf)
    behind = {}
    for member in pairs:
        asking = asked and (member, ASKING) not in missed
        answer = others_answer(answering, member) and (member, ANSWER) not in missed
        behind[member] = next_pair(rule, pairs[member], asked, asking, answer)
    heard = len(answering) > 0 and not deaf
    states = [(member, behind[member][0]) for member in sorted(behind)]
    told = (sorted(answering), heard, states)
    return told, Course(course.number + 1, came, behind, deaf_behind)


def all_that_came(course, comes):
    """Return the members that ever came, with those that come now."""
    came = dict(course.came)
    for member in comes:
        if member in came:
            raise UnknownMember(member)
        came[member] = True
    return came


def pairs_in_beat(course, comes, goes):
    """Return the pairs of the members that are there behind the comings and goings of a beat."""
    pairs = dict(course.pairs)
    for member in comes:
        pairs[member] = COMING
    for member in goes:
        if member not in pairs:
            raise UnknownMember(member)
        del pairs[member]
    return pairs


def check_losers(pairs, lost):
    """Raise an error for the first member that loses though it is not there."""
    for loss in lost:
        if loss[0] not in pairs:
            raise UnknownMember(loss[0])


def all_answering(rule, pairs):
    """Return a dict of the members that answer, of those that have a pair."""
    return {member: True for member in pairs if speaks(rule, pairs[member])}


def losses_in_beat(rule, pairs, asked, answering, lost):
    """Return a dict of the losses of a beat, each of which has to be one that may be."""
    missed = {}
    for member, what in lost:
        if what == ASKING:
            may = asked and pairs[member][1] < rule.losses
        else:
            may = others_answer(answering, member)
        if not may or (member, what) in missed:
            raise TooManyLost(member)
        missed[(member, what)] = True
    return missed


def others_answer(answering, member):
    """Tell whether some other member than this one answers."""
    if member in answering:
        return len(answering) > 1
    return len(answering) > 0


def deaf_beats(rule, course, answering, deaf):
    """Return in how many beats with answers the router lost them last, with this beat."""
    if len(answering) == 0:
        return course.deaf
    if not deaf:
        return 0
    if course.deaf >= rule.losses:
        raise TooManyLost(None)
    return course.deaf + 1


def replay(rule, weaving):
    """Return for each beat of a weaving a tuple (answers, heard, states)."""
    course = first_course()
    result = []
    for beat in weaving:
        told, course = do_beat(rule, course, beat)
        result.append(told)
    return result


def silence_in(rule, weaving, member):
    """Return the greatest silence of a member in a weaving."""
    told = replay(rule, weaving)
    if not any([member in beat[0] for beat in weaving]):
        raise UnknownMember(member)
    greatest = 0
    now = 0
    for _, heard, states in told:
        if heard or member not in dict(states):
            now = 0
        else:
            now += 1
            greatest = max(greatest, now)
    return greatest
