"""What the document promises over the whole program: its interface, [2], [3] and the last part of [8]."""

import copy
import importlib
import inspect
import random
import unittest

from helpers import KNOWN, WAITS, drawn_rules, drawn_weaving, lists_in, members_of, told_of
from oneforall.readings import read_rule, read_weaving
from oneforall.rules import Rule
from oneforall.silences import alike, round_weaving, silence, silence_of, weaving, weaving_of
from oneforall.tables import beginnings, company, endless, following, judge, table
from oneforall.texts import show_rule, show_weaving
from oneforall.weavings import replay, silence_in
from oneforall.wires import Wire

FUNCTIONS = {
    "weavings": {"replay": "rule weaving", "silence_in": "rule weaving member"},
    "tables": {"company": "rule", "beginnings": "rule", "following": "rule standing", "table": "rule",
               "judge": "rule told", "endless": "rule"},
    "silences": {"silence": "rule", "silence_of": "rule number", "alone": "rule", "weaving": "rule beats",
                 "weaving_of": "rule beats number", "round_weaving": "rule", "least_keep": "rule",
                 "alike": "one other"},
    "texts": {"show_rule": "rule", "show_weaving": "weaving"},
    "readings": {"read_rule": "text", "read_weaving": "text"},
}
METHODS = {
    "rules.Rule": {"__init__": "every losses states", "__len__": "", "__eq__": "other", "__getitem__": "index",
                   "reached": ""},
    "wires.Wire": {"__init__": "rule", "__call__": "beat", "__len__": "", "__eq__": "other", "there": "",
                   "silent": "member", "beats": "", "undo": ""},
}
PROPERTIES = {"rules.Rule": ["every", "losses", "states"], "wires.Wire": ["now"]}


class InterfaceTest(unittest.TestCase):

    def class_of(self, name):
        module, word = name.split(".")
        return getattr(importlib.import_module("oneforall." + module), word)

    def test_functions(self):
        for module, functions in FUNCTIONS.items():
            file = importlib.import_module("oneforall." + module)
            for name, arguments in functions.items():
                function = getattr(file, name)
                self.assertTrue(inspect.isfunction(function), name)
                self.assertEqual(function.__module__, file.__name__)
                self.check(function, arguments.split())

    def check(self, function, names):
        """Each argument is passed by position or by name, and none may be left out."""
        told = inspect.signature(function).parameters.values()
        self.assertEqual([each.name for each in told], names)
        self.assertEqual({(each.kind, each.default) for each in told} - {(1, inspect.Parameter.empty)}, set())

    def test_methods(self):
        for name, methods in METHODS.items():
            own = vars(self.class_of(name))
            for word, arguments in methods.items():
                self.check(own[word], ["self"] + arguments.split())

    def test_properties(self):
        for name, words in PROPERTIES.items():
            for word in words:
                self.assertIsInstance(vars(self.class_of(name))[word], property)

    def test_classes(self):
        for name in METHODS:
            found = self.class_of(name)
            self.assertEqual((found.__module__, found.__bases__), ("oneforall." + name.split(".")[0], (object,)))


class ArgumentsTest(unittest.TestCase):

    def test_lists_that_were_passed_stay(self):
        draw = random.Random(101)
        for rule in drawn_rules(102, 60):
            before = show_rule(rule)
            woven, _ = drawn_weaving(draw, rule, 20, 6)
            others = company(rule)[0]
            standing = (0, 0, 0, 0, others)
            told = table(rule) or []
            states = rule.states
            passed = [woven, standing, told, states]
            kept = copy.deepcopy(passed)
            again = Rule(rule.every, rule.losses, states)
            wire = Wire(rule)
            for beat in woven:
                wire(beat)
            replay(rule, woven), show_weaving(woven), following(rule, standing), judge(rule, told)
            for member in members_of(woven):
                silence_in(rule, woven, member)
            self.assertEqual(passed, kept)
            self.assertEqual(show_rule(rule), before)
            # What was passed may be changed behind a call.
            for part in lists_in(passed):
                part.clear()
            self.assertEqual(again, rule)
            self.assertEqual(wire.beats(), kept[0])

    def test_lists_of_all_calls_stand_in_one_place(self):
        draw = random.Random(103)
        for rule in KNOWN + drawn_rules(104, 30):
            woven, _ = drawn_weaving(draw, rule, 12, 6)
            standing = (0, 0, 0, 0, company(rule)[0])
            wire = Wire(rule)
            told = [woven, standing]
            told += [wire(beat) for beat in woven]
            for _ in range(2):
                told += [rule.states, rule.reached(), replay(rule, woven), company(rule), beginnings(rule)]
                told += [following(rule, standing), table(rule), endless(rule), weaving(rule, 3)]
                told += [weaving_of(rule, 2, 2), round_weaving(rule), wire.there(), wire.beats()]
                told += [read_weaving(show_weaving(woven)), read_rule(show_rule(rule)).states]
            found = lists_in(told)
            self.assertEqual(len({id(part) for part in found}), len(found), told_of(rule))

    def test_what_is_told_may_be_passed_on(self):
        for rule in drawn_rules(105, 60):
            most = silence(rule)
            woven = weaving(rule, 20 if most is None else most)
            wire = Wire(rule)
            self.assertEqual([wire(beat) for beat in woven], replay(rule, woven))
            self.assertEqual(read_weaving(show_weaving(woven)), woven)
            self.assertEqual(wire.beats(), woven)
            again = read_rule(show_rule(rule))
            self.assertIs(alike(again, rule), True)
            self.assertEqual(table(again), table(rule))
            if most is not None:
                self.assertIs(judge(again, table(rule)), True)


class BoundsTest(unittest.TestCase):
    """The greatest that [2] lets callers pass."""

    def test_rules_of_four_states(self):
        for rule in [one for one in drawn_rules(106, 200) if len(one) == 4 and one.every == 3 and one.losses == 1]:
            told = [silence_of(rule, 1), silence_of(rule, 2), silence(rule)]
            for number, most in zip((1, 2), told):
                for beats in (60, 9):
                    self.assertEqual(weaving_of(rule, beats, number) is None, most is not None and most < beats)
            self.assertEqual(weaving(rule, 60) is None, told[2] is not None)

    def test_rules_of_three_states(self):
        for rule in [one for one in drawn_rules(107, 150) if len(one) == 3 and one.every == 3 and one.losses == 1]:
            most = silence_of(rule, 3)
            self.assertEqual(weaving_of(rule, 60, 3) is None, most is not None)
            if most is not None:
                self.assertIsNotNone(weaving_of(rule, most, 3))
                self.assertIsNone(weaving_of(rule, most + 1, 3))

    def test_greatest_weavings(self):
        draw = random.Random(108)
        for rule in [one for one in drawn_rules(109, 300, states=8, every=9, losses=3) if len(one) == 8]:
            woven, expected = drawn_weaving(draw, rule, 60, 6)
            self.assertEqual(replay(rule, woven), expected)


class SideBySideTest(unittest.TestCase):
    """Two weavings without a common member may be laid side by side, if the router hears all answers in both."""

    def test_drawn(self):
        draw = random.Random(110)
        for rule in drawn_rules(111, 150):
            one, _ = drawn_weaving(draw, rule, 20, 5, deaf_too=False)
            other = self.renamed(drawn_weaving(draw, rule, 20, 5, deaf_too=False)[0], 5)
            both = self.laid(rule, one, other)
            told = replay(rule, both)
            for beat, first, second in zip(told, replay(rule, one), replay(rule, other)):
                self.assertEqual(beat[0], first[0] + second[0])
                self.assertEqual(beat[2], first[2] + second[2])

    def renamed(self, woven, many):
        return [([member + many for member in comes], [member + many for member in goes], deaf,
                 [(member + many, what) for member, what in lost]) for comes, goes, deaf, lost in woven]

    def laid(self, rule, one, other):
        both = []
        for first, second, beat, beside in zip(one, other, replay(rule, one), replay(rule, other)):
            lost = first[3] + second[3] + self.unheard(beat, beside) + self.unheard(beside, beat)
            both.append((first[0] + second[0], first[1] + second[1], False, lost))
        return both

    def unheard(self, beat, beside):
        """The answers that only the other weaving has for the members of a beat."""
        if not beside[0]:
            return []
        return [(member, "answer") for member, _ in beat[2] if not [one for one in beat[0] if one != member]]


if __name__ == "__main__":
    unittest.main()
