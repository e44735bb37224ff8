"""Plans: weavings that are told by what each member hears.

A plan is a list of dicts, one for each beat: for each member that is there the tuple (asking, answer)
of whether it would hear the asking and answers of others, if there are some.
"""

from oneforall.weavings import ANSWER, ASKING
from oneforall.weavings import all_answering, do_beat, first_course, others_answer, pairs_in_beat


def planned_beat(rule, course, heard, silent):
    """Return the beat behind a course in which just these members are there and hear so much.

    In a beat that is to be silent the router loses answers.
    """
    comes = [member for member in sorted(heard) if member not in course.pairs]
    goes = [member for member in sorted(course.pairs) if member not in heard]
    pairs = pairs_in_beat(course, comes, goes)
    answering = all_answering(rule, pairs)
    asked = course.number % rule.every == 0
    lost = []
    for member in sorted(heard):
        asking, answer = heard[member]
        if asked and not asking:
            lost.append((member, ASKING))
        if others_answer(answering, member) and not answer:
            lost.append((member, ANSWER))
    return (comes, goes, silent and len(answering) > 0, lost)


def planned_weaving(rule, plan, first):
    """Return the weaving of a plan in which the router hears no answer from the beat `first` on."""
    course = first_course()
    result = []
    for number, heard in enumerate(plan):
        beat = planned_beat(rule, course, heard, number >= first)
        result.append(beat)
        _, course = do_beat(rule, course, beat)
    return result
