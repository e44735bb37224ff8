import unittest

from oneforall.errors import InvalidNumber, InvalidState
from oneforall.rules import Rule

WAITS = [(False, 0, 1, 0, 0), (True, 0, 0, 0, 0)]


class MakingTest(unittest.TestCase):

    def fails(self, error, value, *arguments):
        with self.assertRaises(error) as caught:
            Rule(*arguments)
        self.assertIs(type(caught.exception), error)
        self.assertEqual(caught.exception.value, value)

    def test_properties(self):
        rule = Rule(2, 1, WAITS)
        self.assertEqual((rule.every, rule.losses, rule.states), (2, 1, WAITS))

    def test_by_name(self):
        self.assertEqual(Rule(states=WAITS, losses=1, every=2), Rule(2, 1, WAITS))

    def test_properties_are_not_assigned(self):
        rule = Rule(2, 1, WAITS)
        for name in ("every", "losses", "states"):
            self.assertIsInstance(vars(Rule)[name], property)
            with self.assertRaises(AttributeError):
                setattr(rule, name, 1)

    def test_least_numbers(self):
        rule = Rule(1, 0, [(True, 0, 0, 0, 0)])
        self.assertEqual((rule.every, rule.losses, len(rule)), (1, 0, 1))

    def test_greatest_rule(self):
        states = [(index % 3 == 0, index, (index + 1) % 40, 39, 0) for index in range(40)]
        rule = Rule(99, 9, states)
        self.assertEqual((rule.every, rule.losses, rule.states, len(rule)), (99, 9, states, 40))
        self.assertEqual(rule.reached(), list(range(40)))
        self.assertEqual(rule[39], (True, 39, 0, 39, 0))
        self.assertEqual(rule, Rule(99, 9, list(states)))

    def test_every_too_small(self):
        self.fails(InvalidNumber, 0, 0, 1, WAITS)
        self.fails(InvalidNumber, -4, -4, 1, WAITS)

    def test_losses_negative(self):
        self.fails(InvalidNumber, -1, 1, -1, WAITS)

    def test_no_states(self):
        self.fails(InvalidState, 0, 1, 0, [])

    def test_next_state_is_none(self):
        for place in range(1, 5):
            for wrong in (-1, -2, 2, 3, 999):
                state = list(WAITS[1])
                state[place] = wrong
                self.fails(InvalidState, 1, 2, 1, [WAITS[0], tuple(state)])
                self.fails(InvalidState, 0, 2, 1, [tuple(state), WAITS[1]])

    def test_first_wrong_state(self):
        wrong = (False, 0, 4, 0, 0)
        self.fails(InvalidState, 1, 1, 0, [(True, 3, 3, 3, 3), wrong, (True, 0, 0, 0, 0), wrong])

    def test_order_of_errors(self):
        self.fails(InvalidNumber, 0, 0, -1, [])
        self.fails(InvalidNumber, -1, 1, -1, [])
        self.fails(InvalidNumber, -7, 1, -7, [(True, 9, 0, 0, 0)])
        self.fails(InvalidNumber, -2, -2, 0, [(True, 9, 0, 0, 0)])

    def test_the_list_is_neither_changed_nor_kept(self):
        states = list(WAITS)
        rule = Rule(2, 1, states)
        self.assertEqual(states, WAITS)
        states[0] = (True, 0, 0, 0, 0)
        states.append((True, 0, 0, 0, 0))
        self.assertEqual((rule.states, len(rule), rule[0]), (WAITS, 2, WAITS[0]))

    def test_told_lists_are_new(self):
        rule = Rule(2, 1, WAITS)
        rule.states.clear()
        rule.states.append((True, 0, 0, 0, 0))
        rule.reached().append(7)
        self.assertEqual((rule.states, rule.reached(), len(rule)), (WAITS, [0, 1], 2))
        self.assertIsNot(rule.states, rule.states)


class ItemsTest(unittest.TestCase):

    def test_first_and_last(self):
        rule = Rule(2, 1, WAITS)
        self.assertEqual([rule[0], rule[1]], WAITS)

    def test_none_there(self):
        rule = Rule(2, 1, WAITS)
        for index in (-1, -2, -3, 2, 3, 100):
            with self.assertRaises(InvalidState) as caught:
                rule[index]
            self.assertEqual(caught.exception.value, index)
        self.assertEqual(rule, Rule(2, 1, WAITS))

    def test_not_iterated_over(self):
        with self.assertRaises(TypeError):
            list(Rule(2, 1, WAITS))

    def test_kinds(self):
        state = Rule(2, 1, WAITS)[1]
        self.assertIs(type(state), tuple)
        self.assertIs(state[0], True)

    def test_len(self):
        self.assertEqual([len(Rule(1, 0, [(True, 0, 0, 0, 0)] * many)) for many in (1, 2, 8)], [1, 2, 8])

    def test_methods_stand_in_the_class(self):
        for name in ("__init__", "__getitem__", "__len__", "__eq__", "every", "losses", "states", "reached"):
            self.assertIn(name, vars(Rule))


class EqualTest(unittest.TestCase):

    def test_equal(self):
        self.assertTrue(Rule(2, 1, WAITS) == Rule(2, 1, list(WAITS)))
        self.assertFalse(Rule(2, 1, WAITS) != Rule(2, 1, list(WAITS)))

    def test_not_equal(self):
        rule = Rule(2, 1, WAITS)
        others = [Rule(1, 1, WAITS), Rule(2, 0, WAITS), Rule(2, 1, WAITS[:1] + [(True, 0, 0, 0, 1)]),
                  Rule(2, 1, WAITS[:1] + [(False, 0, 0, 0, 0)]), Rule(2, 1, WAITS + WAITS[:1])]
        for other in others:
            self.assertFalse(rule == other)
            self.assertTrue(rule != other)

    def test_nothing_else(self):
        rule = Rule(2, 1, WAITS)
        for other in (None, 2, "every 2 losses 1", WAITS, (2, 1, WAITS), [2, 1, WAITS]):
            self.assertIs(rule == other, False)
            self.assertIs(other == rule, False)
            self.assertIs(rule != other, True)


class ReachedTest(unittest.TestCase):

    def test_each_next_state_counts(self):
        for place in range(1, 5):
            state = [False, 0, 0, 0, 0]
            state[place] = 1
            self.assertEqual(Rule(1, 0, [tuple(state), (True, 1, 1, 1, 1)]).reached(), [0, 1])

    def test_not_reached(self):
        self.assertEqual(Rule(1, 0, [(True, 0, 0, 0, 0), (False, 0, 1, 0, 1)]).reached(), [0])

    def test_zero_is_always_there(self):
        self.assertEqual(Rule(1, 0, [(True, 1, 1, 1, 1), (True, 1, 1, 1, 1)]).reached(), [0, 1])

    def test_over_several_states_ascending(self):
        states = [(True, 4, 4, 4, 4), (True, 1, 1, 1, 1), (True, 2, 2, 2, 2), (True, 3, 3, 3, 3), (True, 4, 2, 4, 4)]
        self.assertEqual(Rule(1, 0, states).reached(), [0, 2, 4])


if __name__ == "__main__":
    unittest.main()
