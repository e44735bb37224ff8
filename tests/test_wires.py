import copy
import random
import unittest

from helpers import ALWAYS, NEVER, WAITS, drawn_rules, drawn_weaving, lists_in, members_of
from oneforall.errors import NothingToUndo, TooManyLost, UnknownMember
from oneforall.rules import Rule
from oneforall.weavings import replay, silence_in
from oneforall.wires import Wire

NOTHING = ([], [], False, [])
DEAF = ([], [], True, [])


def coming(*members):
    return (list(members), [], False, [])


def led(rule, weaving):
    """A wire behind these beats."""
    wire = Wire(rule)
    for beat in weaving:
        wire(beat)
    return wire


def looks(wire):
    """All that a wire tells without being led on."""
    there = wire.there()
    return (wire.now, len(wire), there, [wire.silent(member) for member, _ in there], wire.beats())


class ExampleTest(unittest.TestCase):

    def test_example(self):
        wire = Wire(WAITS)
        self.assertEqual(
            [wire(([0], [], False, [])), wire.now, wire(([], [], False, [])), wire.silent(0), wire.there(),
             wire.undo(), wire.silent(0), len(wire)],
            [([], False, [(0, 1)]), 1, ([0], True, [(0, 0)]), 0, [(0, 0)], None, 1, 1])


class LeadingTest(unittest.TestCase):

    def test_ahead_of_beat_0(self):
        self.assertEqual(looks(Wire(WAITS)), (0, 0, [], [], []))

    def test_by_name(self):
        wire = Wire(rule=WAITS)
        self.assertEqual(wire(beat=coming(4)), ([], False, [(4, 1)]))
        self.assertEqual(wire.silent(member=4), 1)

    def test_now_is_not_assigned(self):
        self.assertIsInstance(vars(Wire)["now"], property)
        with self.assertRaises(AttributeError):
            Wire(WAITS).now = 1

    def test_methods_stand_in_the_class(self):
        for name in ("__call__", "__len__", "__eq__", "now", "there", "silent", "beats", "undo"):
            self.assertIn(name, vars(Wire))

    def test_as_replay(self):
        draw = random.Random(3)
        for rule in drawn_rules(81, 100, states=8, every=9, losses=3):
            weaving, _ = drawn_weaving(draw, rule, 40, 8)
            wire = Wire(rule)
            for number, beat in enumerate(weaving):
                told = replay(rule, weaving[:number + 1])
                self.assertEqual(wire(beat), told[-1])
                self.assertEqual((wire.now, len(wire)), (number + 1, number + 1))
                self.assertEqual(wire.there(), told[-1][2])
                self.assertEqual(wire.beats(), weaving[:number + 1])
                for member, _ in told[-1][2]:
                    self.assertEqual(wire.silent(member), self.last_silence(told, member))
            for member in members_of(weaving):
                # The greatest silence of a weaving is that of some moment.
                most = max(self.silences(rule, weaving, member), default=0)
                self.assertEqual(silence_in(rule, weaving, member), most)

    def last_silence(self, told, member):
        count = 0
        for _, heard, states in reversed(told):
            if heard or member not in dict(states):
                break
            count += 1
        return count

    def silences(self, rule, weaving, member):
        wire = Wire(rule)
        for beat in weaving:
            wire(beat)
            if member in dict(wire.there()):
                yield wire.silent(member)

    def test_two_hundred_calls(self):
        wire = Wire(Rule(9, 3, [(index == 7, (index + 1) % 8, 0, 0, 0) for index in range(8)]))
        wire(coming(*range(8)))
        for number in range(1, 200):
            self.assertEqual(wire(NOTHING)[0], list(range(8)) if number % 9 == 8 else [])
        self.assertEqual(looks(wire)[:2], (200, 200))
        # The last answers were heard in beat 197.
        self.assertEqual([wire.silent(member) for member in range(8)], [2] * 8)

    def test_two_wires_are_led_by_themselves(self):
        one, other = Wire(WAITS), Wire(WAITS)
        one(coming(0))
        self.assertEqual(looks(other), (0, 0, [], [], []))
        other(coming(1))
        self.assertEqual([one.there(), other.there()], [[(0, 1)], [(1, 1)]])

    def test_members_ascending(self):
        wire = Wire(NEVER)
        self.assertEqual(wire(coming(9, 2, 9999, 10))[2], [(2, 0), (9, 0), (10, 0), (9999, 0)])
        self.assertEqual(wire.there(), [(2, 0), (9, 0), (10, 0), (9999, 0)])

    def test_kinds(self):
        wire = led(WAITS, [coming(0), DEAF])
        told = wire(NOTHING)
        self.assertEqual([type(told)] + [type(part) for part in told], [tuple, list, bool, list])
        self.assertEqual([type(wire.now), type(wire.silent(0)), type(len(wire))], [int, int, int])
        self.assertEqual([type(wire.there()), type(wire.there()[0]), type(wire.beats())], [list, tuple, list])
        for beat in wire.beats():
            self.assertEqual([type(beat)] + [type(part) for part in beat], [tuple, list, list, bool, list])


class SilentTest(unittest.TestCase):

    def test_counts(self):
        wire = led(NEVER, [NOTHING, coming(0), NOTHING, coming(1)])
        self.assertEqual([wire.silent(0), wire.silent(1)], [3, 1])

    def test_heard(self):
        wire = led(ALWAYS, [coming(0)])
        self.assertEqual(wire.silent(0), 0)
        wire(coming(1))
        self.assertEqual([wire.silent(0), wire.silent(1)], [0, 0])

    def test_answers_that_the_router_loses_do_not_end_it(self):
        rule = Rule(1, 2, [(True, 0, 0, 0, 0)])
        wire = led(rule, [coming(0), DEAF, ([1], [], True, [])])
        self.assertEqual([wire.silent(0), wire.silent(1)], [2, 1])
        wire(NOTHING)
        self.assertEqual([wire.silent(0), wire.silent(1)], [0, 0])

    def test_answers_of_others_end_it(self):
        rule = Rule(9, 0, [(True, 1, 1, 1, 1), (False, 1, 1, 1, 1)])
        wire = led(rule, [coming(0), NOTHING, NOTHING])
        self.assertEqual(wire.silent(0), 2)
        wire(coming(1))
        self.assertEqual([wire.silent(0), wire.silent(1)], [0, 0])

    def test_not_there(self):
        wire = led(NEVER, [coming(0, 1), ([], [1], False, [])])
        for member in (1, 2, 9999, -1):
            with self.assertRaises(UnknownMember) as caught:
                wire.silent(member)
            self.assertIs(type(caught.exception), UnknownMember)
            self.assertEqual(caught.exception.value, member)
        with self.assertRaises(UnknownMember):
            Wire(NEVER).silent(0)


class ErrorsTest(unittest.TestCase):

    def fails(self, error, value, rule, weaving, beat):
        wire = led(rule, weaving)
        before = looks(wire)
        passed = copy.deepcopy(beat)
        for _ in range(2):
            with self.assertRaises(error) as caught:
                wire(beat)
            self.assertIs(type(caught.exception), error)
            self.assertEqual(caught.exception.value, value)
            self.assertEqual(looks(wire), before)
            self.assertEqual(wire, led(rule, weaving))
        self.assertEqual(beat, passed)
        with self.assertRaises(error) as caught:
            replay(rule, weaving + [beat])
        self.assertEqual(caught.exception.value, value)
        # What is done behind the error is as if it had not been.
        self.assertEqual(wire(NOTHING), led(rule, weaving)(NOTHING))

    def test_comes_again(self):
        self.fails(UnknownMember, 3, WAITS, [coming(3)], coming(3))
        self.fails(UnknownMember, 3, WAITS, [coming(3), ([], [3], False, [])], coming(4, 3))
        self.fails(UnknownMember, 4, WAITS, [], coming(1, 4, 4, 1))

    def test_goes_though_not_there(self):
        self.fails(UnknownMember, 0, WAITS, [], ([], [0], False, []))
        self.fails(UnknownMember, 0, WAITS, [coming(0)], ([], [0, 0], False, []))

    def test_loses_though_not_there(self):
        self.fails(UnknownMember, 5, WAITS, [], ([0], [], False, [(0, "asking"), (5, "asking"), (6, "asking")]))
        self.fails(UnknownMember, 0, WAITS, [coming(0)], ([], [0], False, [(0, "answer")]))

    def test_too_many_lost(self):
        self.fails(TooManyLost, 0, Rule(1, 1, [(False, 0, 0, 0, 0)]), [([0], [], False, [(0, "asking")])],
                   ([], [], False, [(0, "asking")]))
        self.fails(TooManyLost, 0, WAITS, [coming(0)], ([], [], False, [(0, "asking")]))
        self.fails(TooManyLost, 0, ALWAYS, [], ([0], [], False, [(0, "answer")]))
        self.fails(TooManyLost, 1, ALWAYS, [coming(0, 1)], ([], [], False, [(1, "answer"), (1, "answer")]))

    def test_deaf_too_often(self):
        self.fails(TooManyLost, None, ALWAYS, [], ([0], [], True, []))
        self.fails(TooManyLost, None, WAITS, [coming(0), DEAF, NOTHING], DEAF)

    def test_order(self):
        weaving = [coming(0)]
        wrong = [(0, "asking")]
        self.fails(UnknownMember, 0, ALWAYS, weaving, ([0], [5], True, wrong + [(6, "asking")]))
        self.fails(UnknownMember, 5, ALWAYS, weaving, ([], [5], True, wrong + [(6, "asking")]))
        self.fails(UnknownMember, 6, ALWAYS, weaving, ([], [], True, wrong + [(6, "asking")]))
        self.fails(TooManyLost, 0, ALWAYS, weaving, ([], [], True, wrong))
        self.fails(TooManyLost, None, ALWAYS, weaving, DEAF)

    def test_who_was_told_in_an_error_may_still_come(self):
        wire = Wire(WAITS)
        with self.assertRaises(UnknownMember):
            wire(([7], [8], False, []))
        self.assertEqual(wire(coming(7)), ([], False, [(7, 1)]))

    def test_deaf_beats_count_only_if_they_are_done(self):
        rule = Rule(1, 1, [(True, 0, 0, 0, 0)])
        wire = led(rule, [coming(0)])
        with self.assertRaises(UnknownMember):
            wire(([0], [], True, []))
        self.assertEqual(wire(DEAF), ([0], False, [(0, 0)]))


class UndoTest(unittest.TestCase):

    def test_nothing_to_undo(self):
        wire = Wire(WAITS)
        for _ in range(2):
            with self.assertRaises(NothingToUndo) as caught:
                wire.undo()
            self.assertEqual(caught.exception.value, 0)
        self.assertEqual(looks(wire), (0, 0, [], [], []))
        wire(coming(0))
        self.assertIsNone(wire.undo())
        with self.assertRaises(NothingToUndo) as caught:
            wire.undo()
        self.assertEqual(caught.exception.value, 0)
        self.assertEqual(wire(coming(0)), ([], False, [(0, 1)]))

    def test_back_and_forth(self):
        draw = random.Random(6)
        for rule in drawn_rules(82, 40, states=8, every=9, losses=3):
            weaving, _ = drawn_weaving(draw, rule, 15, 8)
            wire = led(rule, weaving)
            for number in reversed(range(15)):
                self.assertIsNone(wire.undo())
                self.assertEqual(looks(wire), looks(led(rule, weaving[:number])))
                self.assertEqual(wire, led(rule, weaving[:number]))
                self.assertEqual(wire(weaving[number]), replay(rule, weaving[:number + 1])[-1])
                wire.undo()
            self.assertEqual([wire(beat) for beat in weaving], replay(rule, weaving))

    def test_what_was_lost_is_taken_back(self):
        rule = Rule(1, 1, [(True, 0, 0, 0, 0)])
        wire = led(rule, [coming(0)])
        for _ in range(4):
            wire(([], [], True, [(0, "asking")]))
            wire.undo()
        self.assertEqual(wire(([], [], True, [(0, "asking")])), ([0], False, [(0, 0)]))

    def test_a_member_may_come_again_then(self):
        wire = led(WAITS, [coming(0), coming(1)])
        wire.undo()
        self.assertEqual(wire(coming(1))[2], [(0, 0), (1, 0)])

    def test_a_member_is_there_again(self):
        wire = led(NEVER, [coming(0), NOTHING, ([], [0], False, [])])
        wire.undo()
        self.assertEqual([wire.there(), wire.silent(0)], [[(0, 0)], 2])


class EqualTest(unittest.TestCase):

    def test_rules_and_weavings(self):
        weaving = [coming(0, 1), DEAF, ([], [1], False, [(0, "asking")])]
        one = led(WAITS, weaving)
        self.assertTrue(one == led(Rule(2, 1, WAITS.states), copy.deepcopy(weaving)))
        self.assertFalse(one != led(WAITS, weaving))
        self.assertFalse(one == led(WAITS, weaving[:2]))
        self.assertFalse(one == led(Rule(2, 2, WAITS.states), weaving))
        self.assertTrue(one != Wire(WAITS))
        self.assertTrue(Wire(WAITS) == Wire(WAITS))
        self.assertFalse(Wire(WAITS) == Wire(NEVER))

    def test_weavings_as_they_were_passed(self):
        # These come to the same, but they are other weavings.
        self.assertFalse(led(NEVER, [NOTHING]) == led(NEVER, [DEAF]))
        self.assertFalse(led(NEVER, [coming(0, 1)]) == led(NEVER, [coming(1, 0)]))

    def test_behind_undo(self):
        wire = led(WAITS, [coming(0), NOTHING])
        wire.undo()
        self.assertTrue(wire == led(WAITS, [coming(0)]))
        wire(DEAF)
        self.assertFalse(wire == led(WAITS, [coming(0), NOTHING]))

    def test_nothing_else(self):
        wire = led(WAITS, [coming(0)])
        for other in (None, 1, "", [], [coming(0)], wire.beats(), WAITS, (WAITS, [coming(0)])):
            self.assertFalse(wire == other)
            self.assertTrue(wire != other)
            self.assertFalse(other == wire)


class ListsTest(unittest.TestCase):

    def test_beats_as_they_were_passed(self):
        weaving = [coming(3, 0, 2), ([5], [2, 0], True, [(5, "asking"), (3, "asking")]), DEAF, NOTHING]
        wire = led(Rule(1, 1, [(False, 0, 0, 0, 0)]), weaving)
        self.assertEqual(wire.beats(), weaving)

    def test_arguments_are_not_kept(self):
        comes, goes, lost = [0, 1], [], [(1, "asking")]
        wire = Wire(WAITS)
        wire((comes, goes, False, lost))
        self.assertEqual((comes, goes, lost), ([0, 1], [], [(1, "asking")]))
        before = looks(wire)
        comes.append(9)
        goes.append(1)
        lost.clear()
        self.assertEqual(looks(wire), before)

    def test_told_lists_may_be_changed(self):
        wire = led(WAITS, [coming(0, 1)])
        told = wire(([2], [1], True, []))
        before = looks(wire)
        for part in lists_in([told, wire.there(), wire.beats()]):
            part.clear()
        self.assertEqual(looks(wire), before)
        self.assertEqual(wire(NOTHING), led(WAITS, [coming(0, 1), ([2], [1], True, [])])(NOTHING))

    def test_each_list_stands_in_one_place(self):
        wire = Wire(WAITS)
        passed = [coming(0, 1), ([2], [1], True, []), ([], [], False, [(0, "asking")])]
        told = [wire(beat) for beat in passed]
        told += [wire.there(), wire.there(), wire.beats(), wire.beats(), passed]
        found = lists_in(told)
        self.assertEqual(len({id(part) for part in found}), len(found))


if __name__ == "__main__":
    unittest.main()
