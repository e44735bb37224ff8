"""Rules: the small tables of states by which members answer."""

from oneforall.errors import InvalidNumber, InvalidState


class Rule:
    """A rule, which never changes.

    A state is a tuple (speaks, on nothing, on asking, on answer, on both).
    """

    def __init__(self, every, losses, states):
        if every < 1:
            raise InvalidNumber(every)
        if losses < 0:
            raise InvalidNumber(losses)
        if len(states) == 0:
            raise InvalidState(0)
        for index, state in enumerate(states):
            if not goes_on_within(state, len(states)):
                raise InvalidState(index)
        self._every = every
        self._losses = losses
        self._states = [tuple(state) for state in states]

    @property
    def every(self):
        """The router asks in each beat whose number is a multiple of this."""
        return self._every

    @property
    def losses(self):
        """So many losses may come one behind the other."""
        return self._losses

    @property
    def states(self):
        """A new list of the states."""
        return list(self._states)

    def __getitem__(self, index):
        # Negative indexes would count from the end, but states count from 0 on.
        if not 0 <= index < len(self._states):
            raise InvalidState(index)
        return self._states[index]

    def __iter__(self):
        raise TypeError("a rule is not iterated over: take its states")

    def __len__(self):
        return len(self._states)

    def __eq__(self, other):
        if not isinstance(other, Rule):
            return False
        return (self._every == other._every and self._losses == other._losses
                and self._states == other._states)

    def reached(self):
        """Return the ascending list of the states to which a member can come."""
        found = {0: True}
        waiting = [0]
        while waiting:
            state = self._states[waiting.pop()]
            for after in state[1:]:
                if after not in found:
                    found[after] = True
                    waiting.append(after)
        return sorted(found)


def goes_on_within(state, many):
    """Tell whether all next states of a state are among so many states."""
    return all([0 <= after < many for after in state[1:]])
