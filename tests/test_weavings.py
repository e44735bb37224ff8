import copy
import random
import unittest

from helpers import drawn_weaving
from oneforall.errors import TooManyLost, UnknownMember
from oneforall.rules import Rule
from oneforall.weavings import do_beat, first_course, replay, silence_in

NOTHING = ([], [], False, [])
WAITS = Rule(2, 1, [(False, 0, 1, 0, 0), (True, 0, 0, 0, 0)])
# State 0 answers, and goes on to another state for each thing that is heard.
TELLS = [(True, 1, 2, 3, 4)] + [(False, state, state, state, state) for state in range(1, 5)]
ALWAYS = [(True, 0, 0, 0, 0)]
NEVER = [(False, 0, 0, 0, 0)]


def coming(*members):
    return (list(members), [], False, [])


def losing(*losses):
    return ([], [], False, list(losses))


DEAF = ([], [], True, [])


class ReplayTest(unittest.TestCase):

    def test_example(self):
        weaving = [([0], [], False, []), ([], [], True, []), ([], [], False, [(0, "asking")]), NOTHING]
        self.assertEqual([replay(WAITS, weaving), silence_in(WAITS, weaving, 0), WAITS.reached()],
                         [[([], False, [(0, 1)]), ([0], False, [(0, 0)]), ([], False, [(0, 0)]),
                           ([], False, [(0, 0)])], 4, [0, 1]])

    def test_empty_weaving(self):
        self.assertEqual(replay(WAITS, []), [])

    def test_beats_without_members(self):
        self.assertEqual(replay(WAITS, [NOTHING, DEAF, NOTHING]), [([], False, [])] * 3)

    def test_by_name(self):
        self.assertEqual(replay(weaving=[NOTHING], rule=WAITS), [([], False, [])])

    def test_what_is_heard(self):
        rule = Rule(2, 1, TELLS)
        self.assertEqual(replay(rule, [coming(0)]), [([0], True, [(0, 2)])])
        self.assertEqual(replay(rule, [NOTHING, coming(0)])[1], ([0], True, [(0, 1)]))
        self.assertEqual(replay(rule, [coming(0, 1)]), [([0, 1], True, [(0, 4), (1, 4)])])
        self.assertEqual(replay(rule, [NOTHING, coming(0, 1)])[1], ([0, 1], True, [(0, 3), (1, 3)]))

    def test_what_is_lost(self):
        rule = Rule(1, 1, TELLS)
        for losses, states in [([(0, "asking")], [(0, 3), (1, 4)]), ([(0, "answer")], [(0, 2), (1, 4)]),
                               ([(0, "asking"), (0, "answer")], [(0, 1), (1, 4)]),
                               ([(1, "answer"), (0, "asking")], [(0, 3), (1, 2)])]:
            self.assertEqual(replay(rule, [([0, 1], [], False, losses)]), [([0, 1], True, states)])

    def test_quiet_members_hear_answers(self):
        rule = Rule(3, 0, [(False, 1, 2, 3, 4), (True, 1, 1, 1, 1)] + [(False, 2, 2, 2, 2)] * 3)
        told = replay(rule, [NOTHING, coming(0), coming(1), coming(2)])
        self.assertEqual(told[1], ([], False, [(0, 1)]))
        self.assertEqual(told[2], ([0], True, [(0, 1), (1, 3)]))
        self.assertEqual(told[3], ([0], True, [(0, 1), (1, 2), (2, 4)]))

    def test_router_asks_in_multiples_of_every(self):
        for every in (1, 2, 3, 9):
            rule = Rule(every, 0, [(False, 1, 2, 0, 0), (False, 1, 1, 1, 1), (False, 2, 2, 2, 2)])
            weaving = [coming(number) for number in range(20)]
            states = dict(replay(rule, weaving)[-1][2])
            self.assertEqual(states, {number: 2 if number % every == 0 else 1 for number in range(20)})

    def test_a_deaf_router_does_not_hear(self):
        rule = Rule(1, 2, ALWAYS)
        told = replay(rule, [([0], [], True, []), DEAF, NOTHING])
        self.assertEqual([heard for _, heard, _ in told], [False, False, True])

    def test_members_hear_though_the_router_is_deaf(self):
        rule = Rule(1, 1, TELLS)
        self.assertEqual(replay(rule, [([0, 1], [], True, [])]), [([0, 1], False, [(0, 4), (1, 4)])])

    def test_coming_and_going(self):
        rule = Rule(1, 0, [(True, 0, 1, 0, 1), (False, 0, 1, 1, 1)])
        told = replay(rule, [coming(3, 0), ([5], [3], False, []), ([], [0, 5], False, [])])
        self.assertEqual(told, [([0, 3], True, [(0, 1), (3, 1)]), ([5], True, [(0, 1), (5, 1)]), ([], False, [])])

    def test_coming_and_going_in_one_beat(self):
        told = replay(Rule(1, 0, ALWAYS), [([2, 1], [2], False, []), NOTHING])
        self.assertEqual(told, [([1], True, [(1, 0)]), ([1], True, [(1, 0)])])

    def test_members_ascending_whatever_the_order(self):
        told = replay(Rule(1, 0, ALWAYS), [coming(9999, 2, 10, 0)])
        self.assertEqual(told, [([0, 2, 10, 9999], True, [(0, 0), (2, 0), (10, 0), (9999, 0)])])

    def test_greatest_rule(self):
        states = [(index == 7, (index + 1) % 8, 0, 0, 0) for index in range(8)]
        rule = Rule(9, 3, states)
        told = replay(rule, [coming(0, 1, 2, 3, 4, 5)] + [NOTHING] * 59)
        self.assertEqual(len(told), 60)
        self.assertEqual([index for index, beat in enumerate(told) if beat[0]], [8, 17, 26, 35, 44, 53])
        self.assertEqual(told[8], ([0, 1, 2, 3, 4, 5], True, [(member, 0) for member in range(6)]))

    def test_kinds(self):
        for told in replay(WAITS, [coming(0), DEAF, NOTHING]):
            self.assertIs(type(told), tuple)
            self.assertIs(type(told[0]), list)
            self.assertIs(type(told[1]), bool)
            self.assertIs(type(told[2]), list)
            for pair in told[2]:
                self.assertIs(type(pair), tuple)

    def test_arguments_stay(self):
        weaving = [([1, 0], [], True, [(1, "asking"), (0, "asking")]), ([2], [0, 2], False, [])]
        before = copy.deepcopy(weaving)
        replay(WAITS, weaving)
        silence_in(WAITS, weaving, 1)
        self.assertEqual(weaving, before)
        self.assertEqual(WAITS, Rule(2, 1, [(False, 0, 1, 0, 0), (True, 0, 0, 0, 0)]))

    def test_lists_are_new(self):
        weaving = [coming(0), NOTHING, NOTHING]
        told = replay(Rule(1, 0, ALWAYS), weaving)
        lists = [beat[0] for beat in told] + [beat[2] for beat in told]
        lists += [thing for beat in weaving for thing in beat if isinstance(thing, list)]
        lists += [weaving, told]
        # NOTHING stands twice in the weaving, so its three lists do, too.
        self.assertEqual(len({id(thing) for thing in lists}), len(lists) - 3)
        told[0][0].append(9)
        told[0][2].clear()
        told.clear()
        self.assertEqual(replay(Rule(1, 0, ALWAYS), weaving), [([0], True, [(0, 0)])] * 3)


class ErrorsTest(unittest.TestCase):

    def fails(self, error, value, rule, weaving):
        before = copy.deepcopy(weaving)
        with self.assertRaises(error) as caught:
            replay(rule, weaving)
        self.assertIs(type(caught.exception), error)
        self.assertEqual(caught.exception.value, value)
        for member in (0, 77):
            with self.assertRaises(error) as caught:
                silence_in(rule, weaving, member)
            self.assertEqual(caught.exception.value, value)
        self.assertEqual(weaving, before)

    def test_comes_again(self):
        self.fails(UnknownMember, 3, WAITS, [coming(3), coming(3)])
        self.fails(UnknownMember, 3, WAITS, [coming(3), ([], [3], False, []), coming(3)])
        self.fails(UnknownMember, 3, WAITS, [([3], [3], False, []), coming(3)])
        self.fails(UnknownMember, 4, WAITS, [coming(1, 4, 4, 1)])

    def test_goes_though_not_there(self):
        self.fails(UnknownMember, 0, WAITS, [([], [0], False, [])])
        self.fails(UnknownMember, 0, WAITS, [([0], [], False, []), ([], [0, 0], False, [])])
        self.fails(UnknownMember, 0, WAITS, [([0], [0], False, []), ([], [0], False, [])])

    def test_loses_though_not_there(self):
        self.fails(UnknownMember, 5, WAITS, [([0], [], False, [(0, "asking"), (5, "asking"), (6, "asking")])])
        self.fails(UnknownMember, 0, WAITS, [([0], [0], False, [(0, "asking")])])
        self.fails(UnknownMember, 0, WAITS, [losing((0, "asking")), coming(0)])

    def test_may_lose_when_it_comes(self):
        self.assertEqual(replay(WAITS, [([0], [], False, [(0, "asking")])]), [([], False, [(0, 0)])])

    def test_told_twice(self):
        rule = Rule(1, 5, ALWAYS)
        for what in ("asking", "answer"):
            self.fails(TooManyLost, 1, rule, [coming(0, 1), losing((0, what), (1, what), (1, what), (0, what))])

    def test_both_may_be_lost(self):
        told = replay(Rule(1, 1, TELLS), [([0, 1], [], False, [(1, "answer"), (1, "asking")])])
        self.assertEqual(told, [([0, 1], True, [(0, 4), (1, 1)])])

    def test_more_askings_than_it_may(self):
        for losses in range(4):
            rule = Rule(1, losses, NEVER)
            weaving = [coming(0, 1)] + [losing((0, "asking"))] * losses
            self.assertEqual(len(replay(rule, weaving)), losses + 1)
            self.fails(TooManyLost, 0, rule, weaving + [losing((0, "asking"))])
            self.assertEqual(len(replay(rule, weaving + [NOTHING] + weaving[1:])), 2 * losses + 2)

    def test_each_member_loses_by_itself(self):
        rule = Rule(1, 1, NEVER)
        weaving = [coming(0, 1), losing((0, "asking")), losing((1, "asking"))]
        self.assertEqual(len(replay(rule, weaving + [losing((0, "asking"))])), 4)
        self.fails(TooManyLost, 1, rule, weaving + [losing((0, "asking"), (1, "asking"))])

    def test_beats_without_an_asking_do_not_count(self):
        rule = Rule(2, 1, NEVER)
        self.fails(TooManyLost, 0, rule, [coming(0), NOTHING, losing((0, "asking")), NOTHING, losing((0, "asking"))])

    def test_answers_may_be_lost_for_ever(self):
        rule = Rule(1, 0, ALWAYS)
        self.assertEqual(len(replay(rule, [coming(0, 1)] + [losing((0, "answer"), (1, "answer"))] * 9)), 10)

    def test_asking_that_was_not_sent(self):
        rule = Rule(2, 3, NEVER)
        self.fails(TooManyLost, 0, rule, [coming(0), losing((0, "asking"))])

    def test_answer_that_was_not_sent(self):
        self.fails(TooManyLost, 0, Rule(1, 3, NEVER), [coming(0, 1), losing((0, "answer"))])
        self.fails(TooManyLost, 0, Rule(1, 3, ALWAYS), [coming(0), losing((0, "answer"))])

    def test_answer_of_another_one(self):
        rule = Rule(1, 0, [(True, 1, 1, 1, 1), (False, 0, 1, 0, 1)])
        self.assertEqual(replay(rule, [coming(0), ([1], [], False, [(0, "answer")])])[1], ([1], True, [(0, 1), (1, 1)]))
        self.fails(TooManyLost, 1, rule, [coming(0), ([1], [], False, [(0, "answer"), (1, "answer")])])

    def test_a_member_that_went_answers_no_more(self):
        self.fails(TooManyLost, 0, Rule(1, 0, ALWAYS), [coming(0, 1), ([], [1], False, [(0, "answer")])])

    def test_first_of_the_losses(self):
        rule = Rule(2, 1, ALWAYS)
        weaving = [coming(0, 1, 2), NOTHING]
        again = (1, "answer")
        self.fails(TooManyLost, 1, rule, weaving + [losing(again, again, (0, "asking"), (0, "asking"))])
        self.fails(TooManyLost, 2, rule, [coming(0, 1, 2), losing(again, (2, "asking"), again)])

    def test_deaf_too_often(self):
        for losses in range(4):
            rule = Rule(1, losses, ALWAYS)
            weaving = [coming(0)] + [DEAF] * losses
            self.assertEqual(len(replay(rule, weaving)), losses + 1)
            self.fails(TooManyLost, None, rule, weaving + [DEAF])
            self.assertEqual(len(replay(rule, weaving + [NOTHING] + weaving[1:])), 2 * losses + 2)

    def test_deaf_without_answers_does_not_count(self):
        self.assertEqual(len(replay(Rule(1, 0, NEVER), [coming(0), DEAF, DEAF])), 3)
        rule = Rule(2, 1, [(False, 0, 1, 0, 0), (True, 0, 0, 0, 0)])
        self.fails(TooManyLost, None, rule, [coming(0), DEAF, NOTHING, DEAF])
        self.assertEqual(len(replay(rule, [coming(0), DEAF, DEAF, NOTHING, DEAF, DEAF])), 6)

    def test_order_within_a_beat(self):
        rule = Rule(1, 0, ALWAYS)
        weaving = [coming(0)]
        wrong = [(0, "asking")]
        self.fails(UnknownMember, 0, rule, weaving + [([0], [5], True, [(6, "asking")] + wrong)])
        self.fails(UnknownMember, 5, rule, weaving + [([], [5], True, [(6, "asking")] + wrong)])
        self.fails(UnknownMember, 6, rule, weaving + [([], [], True, wrong + [(6, "asking")])])
        self.fails(TooManyLost, 0, rule, weaving + [([], [], True, wrong)])
        self.fails(TooManyLost, None, rule, weaving + [([], [], True, [])])

    def test_beat_by_beat(self):
        rule = Rule(1, 0, ALWAYS)
        self.fails(TooManyLost, None, rule, [([0], [], True, []), coming(0)])
        self.fails(TooManyLost, 0, rule, [([0], [], False, [(0, "asking")]), ([], [5], False, [])])
        self.fails(UnknownMember, 5, rule, [([0], [5], False, []), ([], [], False, [(0, "asking")])])


class CourseTest(unittest.TestCase):

    def test_a_course_never_changes(self):
        rule = Rule(1, 1, ALWAYS)
        _, course = do_beat(rule, first_course(), coming(0, 1))
        before = copy.deepcopy(vars(course))
        told = do_beat(rule, course, ([2], [1], True, [(0, "asking")]))[0]
        self.assertEqual(vars(course), before)
        for wrong in (coming(3, 0), ([3], [0, 4], False, []), ([3], [0], True, [(0, "asking")])):
            with self.assertRaises(UnknownMember):
                do_beat(rule, course, wrong)
            self.assertEqual(vars(course), before)
        self.assertEqual(do_beat(rule, course, ([2], [1], True, [(0, "asking")]))[0], told)


class SilenceInTest(unittest.TestCase):

    def test_by_name(self):
        self.assertEqual(silence_in(member=0, weaving=[coming(0)], rule=Rule(1, 0, NEVER)), 1)

    def test_never_comes(self):
        for weaving in ([], [NOTHING], [coming(0, 2)]):
            with self.assertRaises(UnknownMember) as caught:
                silence_in(WAITS, weaving, 1)
            self.assertEqual(caught.exception.value, 1)

    def test_goes_in_the_beat_in_which_it_comes(self):
        self.assertEqual(silence_in(Rule(1, 0, NEVER), [([0], [0], False, []), NOTHING, NOTHING], 0), 0)

    def test_heard_at_once(self):
        self.assertEqual(silence_in(Rule(1, 0, ALWAYS), [coming(0), NOTHING], 0), 0)

    def test_still_going_on(self):
        self.assertEqual(silence_in(Rule(1, 0, NEVER), [NOTHING, coming(0)] + [NOTHING] * 6, 0), 7)

    def test_not_the_beat_in_which_it_goes(self):
        weaving = [coming(0, 1), NOTHING, NOTHING, ([], [0], False, []), NOTHING]
        self.assertEqual(silence_in(Rule(1, 0, NEVER), weaving, 0), 3)
        self.assertEqual(silence_in(Rule(1, 0, NEVER), weaving, 1), 5)

    def test_answers_of_others_end_it(self):
        rule = Rule(9, 0, [(True, 1, 1, 1, 1), (False, 1, 1, 1, 1)])
        weaving = [coming(0), NOTHING, NOTHING, coming(1), NOTHING, NOTHING, NOTHING]
        self.assertEqual([silence_in(rule, weaving, 0), silence_in(rule, weaving, 1)], [3, 3])
        self.assertEqual(silence_in(rule, weaving[:6], 0), 2)

    def test_answers_that_the_router_loses_do_not_end_it(self):
        rule = Rule(9, 1, [(True, 1, 1, 1, 1), (False, 1, 1, 1, 1)])
        weaving = [coming(0), NOTHING, NOTHING, ([1], [], True, []), NOTHING]
        self.assertEqual([silence_in(rule, weaving, 0), silence_in(rule, weaving, 1)], [4, 2])

    def test_greatest_of_several(self):
        rule = Rule(9, 0, [(True, 1, 1, 1, 1), (False, 1, 1, 1, 1)])
        gaps = [2, 5, 3]
        weaving = [coming(0)]
        for number, gap in enumerate(gaps):
            weaving += [NOTHING] * gap + [coming(number + 1)]
        self.assertEqual([silence_in(rule, weaving, member) for member in range(4)], [5, 5, 3, 0])


class RandomWeavingsTest(unittest.TestCase):
    """Weavings that are drawn keep to the rules of a second, plainer account of [5] to [7]."""

    def test_drawn(self):
        draw = random.Random(5)
        for _ in range(300):
            many = draw.randint(1, 4)
            states = [(draw.random() < 0.4,) + tuple(draw.randrange(many) for _ in range(4)) for _ in range(many)]
            rule = Rule(draw.randint(1, 3), draw.randint(0, 2), states)
            weaving, expected = drawn_weaving(draw, rule, 20)
            self.assertEqual(replay(rule, weaving), expected)
            for member in {member for beat in weaving for member in beat[0]}:
                self.assertEqual(silence_in(rule, weaving, member), self.silence(expected, weaving, member))

    def silence(self, told, weaving, member):
        stay = [number for number, beat in enumerate(told) if member in dict(beat[2])]
        if not stay:
            return 0
        begins = [stay[0]] + [number + 1 for number in stay if told[number][1]]
        greatest = 0
        for begin in begins:
            end = begin
            while end in stay and not told[end][1]:
                end += 1
            greatest = max(greatest, end - begin)
        return greatest


if __name__ == "__main__":
    unittest.main()
