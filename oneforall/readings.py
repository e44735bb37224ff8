"""Readings: rules and weavings from their texts."""

from oneforall.errors import StreamError, Unreadable
from oneforall.rules import Rule
from oneforall.texts import DEAF, NOTHING, QUIET, SPEAKS, show_rule, show_weaving
from oneforall.weavings import ANSWER, ASKING

MOST_DIGITS = 4
DIGITS = "0123456789"


def is_number(word):
    """Tell whether a word is an integer of at most four digits, leading zeros aside."""
    return 1 <= len(word) <= MOST_DIGITS and all([sign in DIGITS for sign in word])


def read_rule(text):
    """Return the rule with a text."""
    head, *rows = text.split("; ")
    words = head.split(" ")
    states = [state_of(row) for row in rows]
    if len(words) != 4 or not is_number(words[1]) or not is_number(words[3]) or None in states:
        raise Unreadable(text)
    every, losses = int(words[1]), int(words[3])
    try:
        rule = Rule(every, losses, states)
    except StreamError:
        raise Unreadable(text) from None
    # All that is still wrong, other words or zeros ahead, is not in the text of the rule.
    if show_rule(rule) != text:
        raise Unreadable(text)
    return rule


def state_of(row):
    """Return the state with a text, or None if it is that of no state."""
    word, *nexts = row.split(" ")
    if word not in (SPEAKS, QUIET) or len(nexts) != 4 or not all([is_number(after) for after in nexts]):
        return None
    on_nothing, on_asking, on_answer, on_both = [int(after) for after in nexts]
    return (word == SPEAKS, on_nothing, on_asking, on_answer, on_both)


def read_weaving(text):
    """Return the weaving with a text."""
    if text == "":
        return []
    weaving = [beat_of(row) for row in text.split("; ")]
    # A beat whose things stand in another order, or twice, or with zeros ahead, has another text.
    if None in weaving or show_weaving(weaving) != text:
        raise Unreadable(text)
    return weaving


def beat_of(row):
    """Return the beat with a text, or None if it is surely that of no beat."""
    comes, goes, deaf, lost = [], [], False, []
    if row == NOTHING:
        return (comes, goes, deaf, lost)
    for thing in row.split(", "):
        words = thing.split(" ")
        if words == [DEAF]:
            deaf = True
        elif len(words) == 1 or not is_number(words[1]):
            return None
        elif words[0] == "come":
            comes.append(int(words[1]))
        elif words[0] == "go":
            goes.append(int(words[1]))
        elif words[0] == "lose" and len(words) == 3 and words[2] in (ASKING, ANSWER):
            lost.append((int(words[1]), words[2]))
        else:
            return None
    return (comes, goes, deaf, lost)
