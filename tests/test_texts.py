import copy
import unittest

from helpers import WAITS
from oneforall.rules import Rule
from oneforall.texts import show_rule, show_weaving


class ShowRuleTest(unittest.TestCase):

    def test_example(self):
        self.assertEqual(show_rule(WAITS), "every 2 losses 1; quiet 0 1 0 0; speaks 0 0 0 0")

    def test_by_name(self):
        self.assertEqual(show_rule(rule=WAITS), show_rule(WAITS))

    def test_one_state(self):
        self.assertEqual(show_rule(Rule(1, 0, [(True, 0, 0, 0, 0)])), "every 1 losses 0; speaks 0 0 0 0")
        self.assertEqual(show_rule(Rule(1, 0, [(False, 0, 0, 0, 0)])), "every 1 losses 0; quiet 0 0 0 0")

    def test_next_states_in_their_order(self):
        states = [(True, 1, 2, 3, 4)] + [(False, 4, 3, 2, 1)] * 4
        self.assertEqual(show_rule(Rule(99, 9, states)), "every 99 losses 9; speaks 1 2 3 4" + "; quiet 4 3 2 1" * 4)

    def test_great_rule(self):
        states = [(index % 2 == 0, index, 39 - index, 0, 39) for index in range(40)]
        words = [f"{'speaks' if index % 2 == 0 else 'quiet'} {index} {39 - index} 0 39" for index in range(40)]
        self.assertEqual(show_rule(Rule(12345, 678, states)), "; ".join(["every 12345 losses 678"] + words))

    def test_rule_stays(self):
        show_rule(WAITS)
        self.assertEqual(WAITS, Rule(2, 1, [(False, 0, 1, 0, 0), (True, 0, 0, 0, 0)]))


class ShowWeavingTest(unittest.TestCase):

    def test_example(self):
        weaving = [([0, 3], [], False, []), ([], [3], True, [(0, "asking"), (0, "answer")]), ([], [], False, [])]
        self.assertEqual(show_weaving(weaving), "come 0, come 3; go 3, deaf, lose 0 asking, lose 0 answer; -")

    def test_by_name(self):
        self.assertEqual(show_weaving(weaving=[([1], [], False, [])]), "come 1")

    def test_no_beats(self):
        self.assertEqual(show_weaving([]), "")

    def test_each_thing_alone(self):
        self.assertEqual(show_weaving([([], [], False, [])]), "-")
        self.assertEqual(show_weaving([([7], [], False, [])]), "come 7")
        self.assertEqual(show_weaving([([], [7], False, [])]), "go 7")
        self.assertEqual(show_weaving([([], [], True, [])]), "deaf")
        self.assertEqual(show_weaving([([], [], False, [(7, "asking")])]), "lose 7 asking")
        self.assertEqual(show_weaving([([], [], False, [(7, "answer")])]), "lose 7 answer")

    def test_all_in_one_beat(self):
        beat = ([9999, 2], [5, 4], True, [(9, "answer"), (1, "asking")])
        told = "come 9999, come 2, go 5, go 4, deaf, lose 9 answer, lose 1 asking"
        self.assertEqual(show_weaving([beat]), told)
        self.assertEqual(show_weaving([beat] * 3), "; ".join([told] * 3))

    def test_beats_in_which_there_is_nothing(self):
        self.assertEqual(show_weaving([([], [], False, [])] * 60), "; ".join(["-"] * 60))

    def test_weavings_that_no_rule_lets(self):
        self.assertEqual(show_weaving([([1, 1], [2], False, [(3, "asking")] * 2)]),
                         "come 1, come 1, go 2, lose 3 asking, lose 3 asking")

    def test_argument_stays(self):
        weaving = [([0, 3], [], False, []), ([], [3], True, [(0, "asking"), (0, "answer")])]
        before = copy.deepcopy(weaving)
        show_weaving(weaving)
        self.assertEqual(weaving, before)


if __name__ == "__main__":
    unittest.main()
