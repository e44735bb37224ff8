"""Wires: weavings that are led beat by beat."""

from oneforall.errors import NothingToUndo, UnknownMember
from oneforall.weavings import do_beat, first_course


class Wire:
    """A live wire, ahead of beat 0.

    `_courses` has the course ahead of each beat and behind the last one, `_silences` beside each
    the beats up to then of the silence of each member that is there: to undo a beat is to drop
    the last of both.
    """

    def __init__(self, rule):
        self._rule = rule
        self._done = []
        self._courses = [first_course()]
        self._silences = [{}]

    def __call__(self, beat):
        told, course = do_beat(self._rule, self._courses[-1], beat)
        _, heard, _ = told
        ahead = self._silences[-1]
        self._done.append(copied(beat))
        self._courses.append(course)
        self._silences.append({member: 0 if heard else ahead.get(member, 0) + 1 for member in course.pairs})
        return told

    def __len__(self):
        return len(self._done)

    def __eq__(self, other):
        if not isinstance(other, Wire):
            return False
        return self._rule == other._rule and self._done == other._done

    @property
    def now(self):
        """The number of the next beat."""
        return len(self._done)

    def there(self):
        """Return the ascending list of the tuples (member, state) of the members that are there."""
        pairs = self._courses[-1].pairs
        return [(member, pairs[member][0]) for member in sorted(pairs)]

    def silent(self, member):
        """Return the number of beats of the silence of a member that is there, up to now."""
        silences = self._silences[-1]
        if member not in silences:
            raise UnknownMember(member)
        return silences[member]

    def beats(self):
        """Return the weaving up to now."""
        return [copied(beat) for beat in self._done]

    def undo(self):
        """Take back the last beat."""
        if len(self._done) == 0:
            raise NothingToUndo(0)
        self._done.pop()
        self._courses.pop()
        self._silences.pop()


def copied(beat):
    """Return a beat with new lists."""
    comes, goes, deaf, lost = beat
    return (list(comes), list(goes), deaf, list(lost))
