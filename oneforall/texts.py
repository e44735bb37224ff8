"""Texts of rules and weavings."""

NOTHING = "-"
DEAF = "deaf"
SPEAKS = "speaks"
QUIET = "quiet"


def show_rule(rule):
    """Return the text of a rule."""
    return "; ".join([f"every {rule.every} losses {rule.losses}"] + [show_state(state) for state in rule.states])


def show_state(state):
    """Return the text of a state."""
    speaks, on_nothing, on_asking, on_answer, on_both = state
    word = SPEAKS if speaks else QUIET
    return f"{word} {on_nothing} {on_asking} {on_answer} {on_both}"


def show_weaving(weaving):
    """Return the text of a weaving."""
    return "; ".join([show_beat(beat) for beat in weaving])


def show_beat(beat):
    """Return the text of a beat."""
    comes, goes, deaf, lost = beat
    things = [f"come {member}" for member in comes] + [f"go {member}" for member in goes]
    if deaf:
        things.append(DEAF)
    things.extend([f"lose {member} {what}" for member, what in lost])
    if len(things) == 0:
        return NOTHING
    return ", ".join(things)
