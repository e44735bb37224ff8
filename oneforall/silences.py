"""Silences: how long the router can hear nothing although a member is there."""

from oneforall.casts import group_weaving
from oneforall.drafts import WATCHED, quiet_weaving, quiet_way, silent_weaving
from oneforall.errors import InvalidNumber
from oneforall.graphs import greatest_of_all, long_way
from oneforall.groups import group_silence
from oneforall.tables import beginning_keys, endless, standing_graph


def silence(rule):
    """Return the silence of a rule, or None if there is no greatest."""
    return greatest_of_all(standing_graph(rule))


def silence_of(rule, number):
    """Return the silence for at most so many members that are ever there, or None if there is no greatest."""
    if number < 1:
        raise InvalidNumber(number)
    return group_silence(rule, number)


def alone(rule):
    """Tell whether the silence of a rule is that for one member."""
    return silence(rule) == silence_of(rule, 1)


def one_comes():
    """Return the shortest weaving in which a member has a silence at all, be it of no beats."""
    return [([0], [], False, [])]


def weaving(rule, beats):
    """Return a weaving in which some member has a silence of at least so many beats, or None."""
    if beats < 0:
        raise InvalidNumber(beats)
    if beats == 0:
        return one_comes()
    if len(endless(rule)) > 0:
        return quiet_weaving(rule, quiet_way(rule, beats))
    way = long_way(standing_graph(rule), beginning_keys(rule), beats)
    if way is None:
        return None
    return silent_weaving(rule, way)


def weaving_of(rule, beats, number):
    """Return such a weaving with at most so many members that ever come, or None."""
    if beats < 0:
        raise InvalidNumber(beats)
    if number < 1:
        raise InvalidNumber(number)
    if beats == 0:
        return one_comes()
    return group_weaving(rule, beats, number)


def round_weaving(rule):
    """Return a tuple (weaving, member, count) of a silence without a bound, or None if there is one."""
    many = len(endless(rule))
    if many == 0:
        return None
    # So many places must have one twice, even without the first one: others may go in the beat
    # behind that, which thus may not be put behind the weaving again.
    places = quiet_way(rule, many + 1)
    end = [index for index in range(2, len(places)) if places[index] in places[1:index]][0]
    begin = places.index(places[end], 1)
    return quiet_weaving(rule, places[:end + 1]), WATCHED, end - begin


def least_keep(rule):
    """Return for how many beats the router has to keep the stream on, or None if there is no such number."""
    most = silence(rule)
    if most is None:
        return None
    return most + 1


def alike(one, other):
    """Tell whether two rules have the same silence, and the same for one member and for two."""
    if silence(one) != silence(other):
        return False
    return all([silence_of(one, number) == silence_of(other, number) for number in (1, 2)])
