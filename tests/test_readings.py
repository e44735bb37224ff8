import random
import re
import unittest

from helpers import KNOWN, WAITS, drawn_rules, drawn_weaving, lists_in
from oneforall.errors import Unreadable
from oneforall.readings import read_rule, read_weaving
from oneforall.rules import Rule
from oneforall.silences import round_weaving, weaving
from oneforall.texts import show_rule, show_weaving
from oneforall.wires import Wire

RULE = "every 2 losses 1; quiet 0 1 0 0; speaks 0 0 0 0"
WOVEN = "come 0, come 3; go 3, deaf, lose 0 asking, lose 0 answer; -"

NUMBER = "(0|[1-9][0-9]{0,3})"
STATE = f"(speaks|quiet)( {NUMBER}){{4}}"
RULE_FORM = re.compile(f"every {NUMBER} losses {NUMBER}(; {STATE})+")
COME, GO, LOSE = f"come {NUMBER}", f"go {NUMBER}", f"lose {NUMBER} (asking|answer)"
BEAT_FORM = re.compile(f"(?!$)({COME}(, |$))*({GO}(, |$))*(deaf(, |$))?({LOSE}(, |$))*")
# Every sign that a text may have.
SIGNS = [chr(number) for number in range(32, 127) if number != 37]


def is_rule(text):
    """Tell by its form whether a text is that of a rule."""
    if not RULE_FORM.fullmatch(text):
        return False
    states = text.split("; ")[1:]
    nexts = [int(word) for state in states for word in state.split(" ")[1:]]
    return text.split(" ")[1] != "0" and max(nexts) < len(states)


def is_weaving(text):
    """Tell by its form whether a text is that of a weaving."""
    return text == "" or all(beat == "-" or (BEAT_FORM.fullmatch(beat) and not beat.endswith(", "))
                             for beat in text.split("; "))


def changed(text):
    """All texts with one sign too few, one too many, or one other sign."""
    for index in range(len(text) + 1):
        for sign in SIGNS:
            yield text[:index] + sign + text[index:]
            yield text[:index] + sign + text[index + 1:]
        yield text[:index] + text[index + 1:]


class ReadingTest(unittest.TestCase):

    def unreadable(self, read, *texts):
        for text in texts:
            with self.assertRaises(Unreadable, msg=text) as caught:
                read(text)
            self.assertIs(type(caught.exception), Unreadable)
            self.assertEqual(caught.exception.value, text)

    def check(self, read, show, is_one, text):
        """A text is read if it is that of a rule or a weaving, and only then."""
        if is_one(text):
            self.assertEqual(show(read(text)), text)
        else:
            self.unreadable(read, text)


class ExampleTest(unittest.TestCase):

    def test_example(self):
        rule = Rule(2, 1, [(False, 0, 1, 0, 0), (True, 0, 0, 0, 0)])
        weaving = [([0, 3], [], False, []), ([], [3], True, [(0, "asking"), (0, "answer")]), ([], [], False, [])]
        self.assertEqual(
            [show_rule(rule), show_weaving(weaving), read_rule(show_rule(rule)) == rule,
             read_weaving(show_weaving(weaving)) == weaving, read_weaving("")],
            ['every 2 losses 1; quiet 0 1 0 0; speaks 0 0 0 0',
             'come 0, come 3; go 3, deaf, lose 0 asking, lose 0 answer; -', True, True, []])
        wire = Wire(rule)
        self.assertEqual(
            [wire(([0], [], False, [])), wire.now, wire(([], [], False, [])), wire.silent(0), wire.there(),
             wire.undo(), wire.silent(0), len(wire)],
            [([], False, [(0, 1)]), 1, ([0], True, [(0, 0)]), 0, [(0, 0)], None, 1, 1])


class ReadRuleTest(ReadingTest):

    def test_by_name(self):
        self.assertEqual(read_rule(text=RULE), WAITS)

    def test_what_is_shown(self):
        for rule in KNOWN + drawn_rules(91, 200, states=40, every=99, losses=9):
            read = read_rule(show_rule(rule))
            self.assertIs(type(read), Rule)
            self.assertEqual(read, rule)
            self.assertTrue(all(type(state[0]) is bool for state in read.states))

    def test_any_size(self):
        states = [(True, 0, 0, 0, 0)] * 180
        text = show_rule(Rule(9999, 9999, states))
        self.assertEqual(read_rule(text), Rule(9999, 9999, states))
        self.assertEqual(show_rule(read_rule(text)), text)
        self.assertLess(len(text), 3000)

    def test_empty_text(self):
        self.unreadable(read_rule, "", " ", ";", "; ", "-", "every", "every 1", "every 1 losses 0", "every 1 losses 0; ",
                        "; quiet 0 0 0 0", "quiet 0 0 0 0")

    def test_zeros_ahead(self):
        self.unreadable(read_rule, "every 02 losses 1; quiet 0 0 0 0", "every 2 losses 01; quiet 0 0 0 0",
                        "every 2 losses 1; quiet 0 00 0 0", "every 2 losses 0000; quiet 0 0 0 0",
                        "every 00000002 losses 0; quiet 0 0 0 0")

    def test_five_figures(self):
        self.assertEqual(read_rule("every 9999 losses 9999; quiet 0 0 0 0").every, 9999)
        self.unreadable(read_rule, "every 10000 losses 1; quiet 0 0 0 0", "every 1 losses 10000; quiet 0 0 0 0",
                        "every 1 losses 1; quiet 0 0 10000 0", "every " + "9" * 2000 + " losses 1; quiet 0 0 0 0")

    def test_below_zero(self):
        self.unreadable(read_rule, "every -1 losses 1; quiet 0 0 0 0", "every 1 losses -1; quiet 0 0 0 0",
                        "every 1 losses 1; quiet 0 -1 0 0", "every 1 losses -0; quiet 0 0 0 0")

    def test_that_of_no_rule(self):
        self.unreadable(read_rule, "every 0 losses 1; quiet 0 0 0 0", "every 1 losses 1; quiet 0 0 0 1",
                        "every 1 losses 1; quiet 0 0 0 0; speaks 0 1 2 1")

    def test_other_words(self):
        self.unreadable(read_rule, "Every 1 losses 1; quiet 0 0 0 0", "losses 1 every 1; quiet 0 0 0 0",
                        "every 1 losses 1; silent 0 0 0 0", "every 1 losses 1; True 0 0 0 0",
                        "every one losses 1; quiet 0 0 0 0", "every 1 losses 1; quiet 0 0 0", "every 1 losses 1; quiet",
                        "every 1 losses 1; quiet 0 0 0 0 0", "every 1 losses 1 1; quiet 0 0 0 0",
                        "every 1 losses 1, quiet 0 0 0 0", "every 1 losses 1;quiet 0 0 0 0",
                        "every 1 losses 1; quiet 0 0 0 0;", "every 1 losses 1; quiet 0 0 0 0; ",
                        " every 1 losses 1; quiet 0 0 0 0", "every 1 losses 1; quiet 0 0 0 0 ",
                        "every +1 losses 1; quiet 0 0 0 0", "every 1_0 losses 1; quiet 0 0 0 0",
                        "every  1 losses 1; quiet 0 0 0 0", "every 1.0 losses 1; quiet 0 0 0 0")

    def test_one_sign_changed(self):
        for text in (RULE, show_rule(KNOWN[-1])):
            for other in changed(text):
                self.check(read_rule, show_rule, is_rule, other)

    def test_texts_of_pieces(self):
        self.assertTrue(is_rule(RULE))
        draw = random.Random(92)
        pieces = ["every 1 losses 0", "every 12 losses 3", "quiet 0 0 0 0", "speaks 0 1 0 1", "; ", "; ", ";", " ", ""]
        for _ in range(4000):
            text = "".join(draw.choice(pieces) for _ in range(draw.randint(0, 8)))
            self.check(read_rule, show_rule, is_rule, text)


class ReadWeavingTest(ReadingTest):

    def test_by_name(self):
        self.assertEqual(read_weaving(text="-"), [([], [], False, [])])

    def test_empty_text(self):
        self.assertEqual(read_weaving(""), [])
        self.assertIsNot(read_weaving(""), read_weaving(""))

    def test_each_thing_alone(self):
        self.assertEqual(read_weaving("come 7"), [([7], [], False, [])])
        self.assertEqual(read_weaving("go 7"), [([], [7], False, [])])
        self.assertEqual(read_weaving("deaf"), [([], [], True, [])])
        self.assertEqual(read_weaving("lose 7 asking"), [([], [], False, [(7, "asking")])])
        self.assertEqual(read_weaving("lose 7 answer"), [([], [], False, [(7, "answer")])])
        self.assertEqual(read_weaving("-; -; -"), [([], [], False, [])] * 3)

    def test_kinds(self):
        for woven in (read_weaving(WOVEN), read_weaving("-; deaf")):
            for beat in woven:
                self.assertEqual([type(beat)] + [type(part) for part in beat], [tuple, list, list, bool, list])
                self.assertTrue(all(type(loss) is tuple for loss in beat[3]))

    def test_what_is_shown(self):
        draw = random.Random(93)
        for rule in drawn_rules(94, 150, states=8, every=9, losses=3):
            woven, _ = drawn_weaving(draw, rule, 60, 6)
            self.assertEqual(read_weaving(show_weaving(woven)), woven)
        for rule in KNOWN:
            self.assertEqual(read_weaving(show_weaving(weaving(rule, 0))), weaving(rule, 0))
            if round_weaving(rule) is not None:
                self.assertEqual(read_weaving(show_weaving(weaving(rule, 60))), weaving(rule, 60))

    def test_weavings_that_no_rule_lets(self):
        for text in ("come 1, come 1", "go 4", "go 4, go 4; lose 9 asking, lose 9 asking", "come 0; come 0"):
            self.assertEqual(show_weaving(read_weaving(text)), text)

    def test_any_size(self):
        text = "; ".join(["-"] * 1000)
        self.assertEqual(len(read_weaving(text)), 1000)
        text = ", ".join(f"come {number}" for number in range(9700, 9950))
        self.assertEqual(read_weaving(text), [(list(range(9700, 9950)), [], False, [])])
        self.assertLess(len(text), 3000)

    def test_numbers(self):
        self.assertEqual(read_weaving("come 0, come 9999, go 10, lose 100 asking"),
                         [([0, 9999], [10], False, [(100, "asking")])])
        self.unreadable(read_weaving, "come 00", "come 01", "go 007", "lose 01 asking", "come 10000", "go 12345",
                        "lose 10000 answer", "come -1", "go -1", "lose -1 asking", "come -0", "come +1", "come 1_0",
                        "come 1.0", "come one", "come " + "1" * 2000)

    def test_order(self):
        self.unreadable(read_weaving, "go 1, come 2", "deaf, come 1", "deaf, go 1", "lose 1 asking, deaf",
                        "lose 1 asking, come 1", "lose 1 asking, go 1", "deaf, deaf", "come 1, go 2, come 3")

    def test_other_words(self):
        self.unreadable(read_weaving, " ", "; ", ";", ",", ", ", "--", "-;-", "- ", " -", "-; ", "; -", "-, -", "-, deaf",
                        "come", "come ", "go", "lose", "lose 1", "lose 1 ", "lose asking", "lose 1 nothing", "Come 1",
                        "deaf 1", "come 1 2", "come 1 asking", "go 1 answer", "come 1,come 2", "come 1;come 2",
                        "come 1, ", "come 1; ", "come  1", "lose 1  asking", "lose 1 asking answer", "comes 1", "1",
                        "come 1 ; -", "come 1, -")

    def test_one_sign_changed(self):
        for text in (WOVEN, "-", "", "deaf; come 1", "lose 10 answer"):
            for other in changed(text):
                self.check(read_weaving, show_weaving, is_weaving, other)

    def test_texts_of_pieces(self):
        self.assertTrue(is_weaving(WOVEN))
        draw = random.Random(95)
        pieces = ["come 1", "go 23", "deaf", "lose 4 asking", "lose 0 answer", "-"]
        joints = [", ", ", ", "; ", "; ", ",", ";", " ", ""]
        for _ in range(6000):
            text = draw.choice(pieces)
            for _ in range(draw.randint(0, 5)):
                text += draw.choice(joints[:4] if draw.random() < 0.9 else joints) + draw.choice(pieces)
            self.check(read_weaving, show_weaving, is_weaving, text)

    def test_each_list_stands_in_one_place(self):
        found = lists_in([read_weaving(WOVEN), read_weaving(WOVEN), read_weaving("-; -"), read_weaving("")])
        self.assertEqual(len({id(part) for part in found}), len(found))
        told = read_weaving(WOVEN)
        for part in lists_in(told):
            part.clear()
        self.assertEqual(show_weaving(read_weaving(WOVEN)), WOVEN)


if __name__ == "__main__":
    unittest.main()
