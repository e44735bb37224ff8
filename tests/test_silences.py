import copy
import random
import unittest

from helpers import ALWAYS, FEW, HEARD, KNOWN, NEVER, STILL, WAITS
from helpers import drawn_rules, drawn_weaving, lists_in, members_of, plain_silence, told_of
from oneforall.errors import InvalidNumber
from oneforall.rules import Rule
from oneforall.silences import alike, alone, least_keep, round_weaving, silence, silence_of, weaving, weaving_of
from oneforall.tables import beginnings, company, endless, judge, table
from oneforall.weavings import replay, silence_in

ENDLESS = 10 ** 9


def as_number(most):
    """A silence that can be compared, also if it has no bound."""
    return ENDLESS if most is None else most


def best(rule, woven):
    """The greatest silence of any member in a weaving."""
    return max(silence_in(rule, woven, member) for member in members_of(woven))


def last_silence(rule, woven, member):
    """The beats of the silence of a member at the end of a weaving."""
    count = 0
    for _, heard, states in reversed(replay(rule, woven)):
        if heard or member not in dict(states):
            break
        count += 1
    return count


class ExampleTest(unittest.TestCase):

    def test_first(self):
        rule = Rule(2, 1, [(False, 0, 1, 0, 0), (True, 0, 0, 0, 0)])
        self.assertEqual(
            [silence_of(rule, 1), least_keep(Rule(1, 0, [(True, 0, 0, 0, 0)])),
             silence(Rule(1, 0, [(False, 0, 0, 0, 0)])), weaving(Rule(1, 0, [(True, 0, 0, 0, 0)]), 1)],
            [8, 1, None, None])

    def test_second(self):
        still = Rule(1, 0, [(False, 0, 1, 0, 1), (False, 2, 2, 0, 0), (True, 0, 1, 0, 1)])
        shown = weaving(still, 3)
        self.assertEqual([silence_of(still, 1), silence(still), shown], [2, 2, None])
        heard = Rule(1, 0, [(True, 0, 0, 1, 1), (False, 1, 1, 1, 1)])
        few = Rule(1, 0, [(True, 0, 1, 0, 1), (False, 0, 0, 0, 2), (False, 0, 0, 0, 3), (False, 3, 3, 3, 3)])
        self.assertEqual([silence_of(heard, 1), silence_of(heard, 2), alone(heard), silence_of(few, 1),
                          silence_of(few, 2), silence(few), alone(still)],
                         [0, None, False, 1, 1, None, True])


class CallingTest(unittest.TestCase):

    def test_by_name(self):
        self.assertEqual(silence(rule=WAITS), 8)
        self.assertEqual(silence_of(number=1, rule=WAITS), 8)
        self.assertIs(alone(rule=WAITS), True)
        self.assertEqual(weaving(beats=3, rule=WAITS), weaving(WAITS, 3))
        self.assertEqual(weaving_of(number=2, beats=3, rule=WAITS), weaving_of(WAITS, 3, 2))
        self.assertEqual(round_weaving(rule=NEVER), round_weaving(NEVER))
        self.assertEqual(least_keep(rule=WAITS), 9)
        self.assertIs(alike(other=WAITS, one=WAITS), True)

    def test_kinds(self):
        for rule in KNOWN:
            for told in (silence(rule), silence_of(rule, 2), least_keep(rule)):
                self.assertIn(type(told), (int, type(None)))
            self.assertIs(type(alone(rule)), bool)
            self.assertIs(type(alike(rule, WAITS)), bool)
            self.check_weaving(weaving(rule, 0))
            self.check_weaving(weaving_of(rule, 0, 2))
        for rule in (NEVER, HEARD, FEW):
            told = round_weaving(rule)
            self.assertIs(type(told), tuple)
            self.assertEqual([type(part) for part in told], [list, int, int])
            self.check_weaving(told[0])
            self.check_weaving(weaving(rule, 9))
            self.check_weaving(weaving_of(rule, 1, 3))

    def check_weaving(self, woven):
        self.assertIs(type(woven), list)
        for beat in woven:
            self.assertIs(type(beat), tuple)
            self.assertEqual([type(part) for part in beat], [list, list, bool, list])
            for loss in beat[3]:
                self.assertEqual([type(part) for part in loss], [int, str])

    def test_each_list_stands_in_one_place(self):
        for rule in KNOWN + drawn_rules(5, 40):
            told = [weaving(rule, 0), weaving(rule, 0), weaving_of(rule, 0, 1), weaving_of(rule, 0, 1)]
            told += [weaving(rule, 1), weaving(rule, 12), weaving(rule, 12), weaving_of(rule, 5, 2)]
            told += [round_weaving(rule), round_weaving(rule)]
            found = lists_in(told)
            self.assertEqual(len({id(part) for part in found}), len(found))

    def test_told_lists_may_be_changed(self):
        calls = [lambda: weaving(NEVER, 0), lambda: weaving(WAITS, 8), lambda: weaving(FEW, 20),
                 lambda: weaving_of(WAITS, 0, 1), lambda: weaving_of(HEARD, 20, 2), lambda: round_weaving(FEW)]
        for call in calls:
            before = copy.deepcopy(call())
            for part in lists_in(call()):
                part.clear()
            self.assertEqual(call(), before)

    def test_rules_stay(self):
        for rule in KNOWN:
            before = Rule(rule.every, rule.losses, rule.states)
            silence(rule), silence_of(rule, 2), alone(rule), weaving(rule, 4), weaving_of(rule, 4, 2)
            round_weaving(rule), least_keep(rule), alike(rule, rule)
            self.assertEqual(rule, before)


class ErrorsTest(unittest.TestCase):

    def fails(self, value, call, *arguments):
        with self.assertRaises(InvalidNumber) as caught:
            call(*arguments)
        self.assertIs(type(caught.exception), InvalidNumber)
        self.assertEqual(caught.exception.value, value)

    def test_beats_below_zero(self):
        for rule in (ALWAYS, NEVER, WAITS):
            for beats in (-1, -2, -60):
                self.fails(beats, weaving, rule, beats)
                self.fails(beats, weaving_of, rule, beats, 1)

    def test_no_members(self):
        for rule in (ALWAYS, NEVER, WAITS):
            for number in (0, -1, -3):
                self.fails(number, silence_of, rule, number)
                for beats in (0, 1, 60):
                    self.fails(number, weaving_of, rule, beats, number)

    def test_beats_first(self):
        self.fails(-1, weaving_of, WAITS, -1, 0)
        self.fails(-2, weaving_of, WAITS, -2, -7)


class SilenceTest(unittest.TestCase):

    def test_known(self):
        self.assertEqual([silence(rule) for rule in KNOWN], [0, None, 8, 2, None, None])

    def test_all_speak(self):
        for every in (1, 2, 3):
            for losses in (0, 1):
                for states in ([(True, 0, 0, 0, 0)], [(True, 1, 0, 1, 0), (True, 0, 1, 1, 0)],
                               [(True, 1, 2, 3, 0), (True, 2, 3, 0, 1), (True, 0, 0, 1, 1), (True, 3, 2, 1, 0)]):
                    rule = Rule(every, losses, states)
                    self.assertEqual([silence(rule), silence_of(rule, 1), silence_of(rule, 2)], [losses] * 3)

    def test_none_speaks(self):
        for every in (1, 2, 3):
            for states in ([(False, 0, 0, 0, 0)], [(False, 1, 0, 1, 0), (False, 0, 1, 1, 0)],
                           [(False, 1, 2, 3, 0), (False, 2, 3, 0, 1), (False, 0, 0, 1, 1), (False, 3, 2, 1, 0)]):
                rule = Rule(every, 1, states)
                self.assertEqual([silence(rule), silence_of(rule, 1), silence_of(rule, 2)], [None] * 3)

    def test_a_state_that_speaks_and_is_not_reached(self):
        rule = Rule(1, 0, [(False, 0, 0, 1, 1), (True, 1, 1, 1, 1)])
        self.assertEqual([silence(rule), silence_of(rule, 1)], [None, None])

    def test_only_others_make_it_quiet(self):
        # An answer of another one sends a member to a state in which it waits for two beats more.
        rule = Rule(1, 0, [(True, 0, 0, 1, 1), (False, 2, 2, 2, 2), (False, 0, 0, 0, 0)])
        self.assertEqual([silence_of(rule, 1), silence_of(rule, 2), silence_of(rule, 3), silence(rule)], [0, 2, 2, 2])

    def test_three_members_make_it_worse_than_two(self):
        told = [
            (Rule(3, 1, [(True, 0, 0, 0, 1), (False, 0, 0, 1, 0), (False, 1, 0, 0, 0)]), [1, 2, 3]),
            (Rule(3, 1, [(True, 0, 0, 1, 0), (False, 1, 0, 0, 1)]), [1, 11, 12]),
            (Rule(3, 1, [(True, 0, 1, 1, 1), (False, 0, 2, 2, 0), (False, 2, 0, 2, 2)]), [2, 9, 13]),
            (Rule(2, 0, [(False, 2, 0, 0, 1), (False, 0, 1, 1, 0), (True, 0, 0, 0, 2)]), [2, 3, 4]),
            (Rule(1, 1, [(False, 0, 2, 1, 0), (False, 2, 0, 0, 1), (True, 2, 2, 0, 2)]), [3, 4, 5])]
        for rule, numbers in told:
            self.assertEqual([silence_of(rule, number) for number in (1, 2, 3)], numbers)
            self.assertEqual([plain_silence(rule, number) for number in (1, 2, 3)], numbers)
            self.assertEqual(silence(rule), numbers[2])

    def test_what_the_others_have_to_do(self):
        quiet = False
        told = [
            # Another one is there when the member comes, and answers later, while the router is deaf.
            (Rule(1, 1, [(quiet, 1, 1, 1, 1), (quiet, 2, 2, 0, 0), (True, 2, 2, 2, 2)]), [3, 4]),
            # A silence begins behind an answer, and another one is there with a pair that is greater.
            (Rule(1, 1, [(True, 0, 0, 0, 1), (True, 2, 1, 1, 0), (quiet, 2, 0, 0, 2)]), [1, 4]),
            (Rule(2, 1, [(True, 1, 0, 1, 2), (quiet, 1, 2, 0, 1), (quiet, 3, 3, 0, 3), (True, 3, 2, 3, 0)]), [6, 9]),
            # One that speaks has to leave, and one that is quiet stays.
            (Rule(2, 1, [(quiet, 0, 2, 2, 3), (True, 1, 1, 0, 2), (True, 1, 1, 2, 0), (quiet, 2, 0, 0, 0)]), [5, 5, 6]),
            # One that speaks has to leave in the beat in which another one comes.
            (Rule(2, 1, [(quiet, 1, 1, 1, 3), (quiet, 2, 2, 2, 2), (True, 2, 2, 2, 2), (quiet, 4, 4, 4, 4),
                         (quiet, 5, 5, 5, 5), (quiet, 2, 2, 6, 2), (quiet, 7, 7, 7, 7), (quiet, 2, 2, 2, 2)]),
             [3, 4, 5])]
        for rule, numbers in told:
            for number, most in enumerate(numbers, 1):
                self.assertEqual(silence_of(rule, number), most)
                self.assertEqual(plain_silence(rule, number), most)
                self.assertGreaterEqual(best(rule, weaving_of(rule, most, number)), most)
                self.assertLessEqual(len(members_of(weaving_of(rule, most, number))), number)
            self.assertEqual(silence(rule), numbers[-1])
            self.assertEqual(best(rule, weaving(rule, numbers[-1])), numbers[-1])

    def test_somewhat_beyond_the_bounds(self):
        # With more losses in a row a silence has several beats with answers.
        for rule in drawn_rules(49, 60, states=3, losses=3):
            self.assertEqual(silence_of(rule, 1), plain_silence(rule, 1), told_of(rule))
        for rule in drawn_rules(50, 60, states=2, every=2, losses=3):
            most = silence_of(rule, 2)
            self.assertEqual(most, plain_silence(rule, 2), told_of(rule))
            if most is not None:
                self.assertGreaterEqual(best(rule, weaving_of(rule, most, 2)), most)

    def test_an_answer_that_is_lost_may_be_heard_by_members(self):
        # The router loses the answer of another one, which keeps the member quiet.
        rule = Rule(3, 1, [(False, 1, 1, 0, 0), (False, 2, 2, 0, 0), (True, 2, 2, 0, 0)])
        for number in (1, 2):
            self.assertEqual(silence_of(rule, number), plain_silence(rule, number))
        self.assertLess(silence_of(rule, 1), silence_of(rule, 2))

    def test_any_number_of_members(self):
        # `few` needs three members: [8] tells of it, and no two of them are enough.
        self.assertEqual([silence_of(FEW, number) for number in (1, 2)], [1, 1])
        self.assertIsNone(silence_of(FEW, 3))
        self.assertIsNone(silence(FEW))

    def test_by_trying_all_one_member(self):
        for rule in drawn_rules(41, 150):
            self.assertEqual(silence_of(rule, 1), plain_silence(rule, 1), told_of(rule))

    def test_by_trying_all_two_members(self):
        for rule in drawn_rules(42, 150):
            self.assertEqual(silence_of(rule, 2), plain_silence(rule, 2), told_of(rule))

    def test_by_trying_all_three_members(self):
        for rule in drawn_rules(43, 60, states=2) + drawn_rules(44, 12, states=3):
            self.assertEqual(silence_of(rule, 3), plain_silence(rule, 3), told_of(rule))

    def test_by_trying_all_four_members_of_small_rules(self):
        for rule in drawn_rules(45, 20, states=2, every=1, losses=0) + drawn_rules(48, 3, states=2, every=1):
            most = plain_silence(rule, 4)
            self.assertLessEqual(as_number(most), as_number(silence(rule)), told_of(rule))
            self.assertEqual(silence_of(rule, 4), most)

    def test_least_keep(self):
        self.assertEqual([least_keep(rule) for rule in KNOWN], [1, None, 9, 3, None, None])

    def test_alone(self):
        self.assertEqual([alone(rule) for rule in KNOWN], [True, True, True, True, False, False])
        for rule in drawn_rules(46, 100):
            self.assertIs(alone(rule), silence(rule) == silence_of(rule, 1))

    def test_alike(self):
        for one in KNOWN:
            self.assertIs(alike(one, one), True)
        # Other numbers and states, and yet the same silences.
        self.assertIs(alike(ALWAYS, Rule(3, 0, [(True, 0, 1, 0, 0), (True, 1, 1, 1, 0)])), True)
        self.assertIs(alike(NEVER, Rule(2, 1, [(False, 0, 0, 0, 0)])), True)
        self.assertIs(alike(ALWAYS, WAITS), False)
        self.assertIs(alike(WAITS, ALWAYS), False)
        self.assertIs(alike(ALWAYS, NEVER), False)

    def test_alike_each_of_the_three_counts(self):
        # All of these have no bound; FEW has 1 for one member and for two, HEARD 0 for one and none for two.
        self.assertIs(alike(HEARD, NEVER), False)
        self.assertIs(alike(FEW, HEARD), False)
        self.assertIs(alike(FEW, NEVER), False)
        # As FEW, and with two members there is no bound, either.
        two = Rule(1, 0, [(True, 0, 1, 0, 1), (False, 0, 0, 2, 2), (False, 2, 2, 2, 2)])
        self.assertEqual([silence_of(two, 1), silence_of(two, 2), silence(two)], [1, None, None])
        self.assertIs(alike(FEW, two), False)
        rules = drawn_rules(47, 60)
        told = [(silence(rule), silence_of(rule, 1), silence_of(rule, 2)) for rule in rules]
        for one in range(len(rules)):
            for other in range(one, min(len(rules), one + 6)):
                self.assertIs(alike(rules[one], rules[other]), told[one] == told[other])


class WeavingTest(unittest.TestCase):

    def check(self, rule, woven, beats, number=None):
        """A weaving is let, some member has the silence, and nobody goes in the beat in which it comes."""
        self.assertGreaterEqual(best(rule, woven), beats, told_of(rule))
        for comes, goes, _, _ in woven:
            self.assertEqual(set(comes) & set(goes), set())
        if number is not None:
            self.assertLessEqual(len(members_of(woven)), number)

    def test_no_beats(self):
        for rule in KNOWN + drawn_rules(51, 40):
            self.check(rule, weaving(rule, 0), 0)
            for number in (1, 2, 3):
                self.check(rule, weaving_of(rule, 0, number), 0, number)

    def test_each_number_up_to_the_silence(self):
        for rule in KNOWN + drawn_rules(52, 250):
            most = silence(rule)
            for beats in range(26 if most is None else most + 1):
                self.check(rule, weaving(rule, beats), beats)
            if most is not None:
                for beats in (most + 1, most + 2, 60):
                    self.assertIsNone(weaving(rule, beats))

    def test_each_number_up_to_the_silence_of_few(self):
        for number, rules in ((1, drawn_rules(53, 60)), (2, drawn_rules(54, 60)), (3, drawn_rules(55, 30, states=3))):
            for rule in KNOWN[:5] + rules:
                most = silence_of(rule, number)
                for beats in range(12 if most is None else most + 1):
                    self.check(rule, weaving_of(rule, beats, number), beats, number)
                if most is not None:
                    for beats in (most + 1, most + 2, 60):
                        self.assertIsNone(weaving_of(rule, beats, number))

    def test_the_silence_of_rules_that_lose_more(self):
        for rule in drawn_rules(57, 250, losses=3):
            most = silence(rule)
            if most is not None:
                self.check(rule, weaving(rule, most), most)
                self.assertIsNone(weaving(rule, most + 1))

    def test_others_hear_answers_within_a_silence(self):
        # In an early beat the watched member answers, or another one, and who answers later hears it.
        told = [(Rule(2, 2, [(False, 0, 1, 1, 0), (True, 1, 1, 1, 0)]), 14),
                (Rule(1, 3, [(False, 0, 2, 0, 1), (True, 2, 0, 2, 1), (True, 2, 1, 2, 1)]), 11),
                (Rule(3, 2, [(False, 0, 2, 1, 0), (False, 2, 0, 1, 2), (True, 2, 2, 2, 2)]), 19),
                (Rule(2, 2, [(False, 2, 0, 1, 0), (False, 0, 2, 2, 1), (True, 2, 0, 2, 0)]), 7)]
        for rule, most in told:
            self.assertEqual(silence(rule), most)
            self.check(rule, weaving(rule, most), most)

    def test_the_silence_of_three(self):
        for rule in drawn_rules(58, 250, states=3) + drawn_rules(59, 20, states=3, every=2, losses=2):
            most = silence_of(rule, 3)
            beats = 9 if most is None else most
            self.check(rule, weaving_of(rule, beats, 3), beats, 3)

    def test_sixty_beats(self):
        for rule in (NEVER, HEARD, FEW):
            self.check(rule, weaving(rule, 60), 60)
        self.check(NEVER, weaving_of(NEVER, 60, 1), 60, 1)
        self.check(HEARD, weaving_of(HEARD, 60, 2), 60, 2)
        self.check(FEW, weaving_of(FEW, 60, 3), 60, 3)
        self.assertIsNone(weaving_of(HEARD, 60, 1))
        self.assertIsNone(weaving_of(FEW, 60, 2))

    def test_at_most_so_many_beats_of_a_silence_have_answers(self):
        for rule in drawn_rules(56, 150):
            most = silence(rule)
            woven = weaving(rule, 9 if most is None else most)
            told = replay(rule, woven)
            for member in members_of(woven):
                answered = 0
                for answers, heard, states in told:
                    if heard or member not in dict(states):
                        answered = 0
                    elif answers:
                        answered += 1
                        self.assertLessEqual(answered, rule.losses)

    def test_a_silence_behind_an_answer(self):
        # Who comes answers at once, so the long silence is behind an answer that was heard.
        rule = Rule(1, 0, [(True, 1, 1, 1, 1), (False, 2, 2, 2, 2), (False, 3, 3, 3, 3), (False, 0, 0, 0, 0)])
        self.assertEqual([silence(rule), silence_of(rule, 1)], [3, 3])
        self.check(rule, weaving(rule, 3), 3)
        self.check(rule, weaving_of(rule, 3, 1), 3, 1)


class RoundTest(unittest.TestCase):

    def check(self, rule):
        woven, member, count = round_weaving(rule)
        self.assertGreaterEqual(count, 1)
        self.assertLessEqual(count, len(woven))
        first = last_silence(rule, woven, member)
        again = list(woven)
        for times in range(1, 6):
            again = again + woven[-count:]
            self.assertEqual(last_silence(rule, again, member), first + times * count, told_of(rule))
        for comes, goes, _, _ in woven:
            self.assertEqual(set(comes) & set(goes), set())

    def test_bound(self):
        for rule in (ALWAYS, WAITS, STILL):
            self.assertIsNone(round_weaving(rule))

    def test_known(self):
        for rule in (NEVER, HEARD, FEW, Rule(3, 1, [(False, 0, 0, 0, 0)])):
            self.check(rule)

    def test_the_others_have_gone_ahead_of_the_last_beats(self):
        # The member needs an answer of another one, and then is quiet in a circle of three states.
        rule = Rule(1, 0, [(True, 0, 0, 1, 1), (False, 2, 2, 2, 2), (False, 3, 3, 3, 3), (False, 1, 1, 1, 1)])
        self.check(rule)
        woven, _, count = round_weaving(rule)
        self.assertEqual(count % 3, 0)
        self.assertEqual([(comes, goes) for comes, goes, _, _ in woven[-count:]], [([], [])] * count)

    def test_quiet_only_by_losses(self):
        # Each second asking has to be lost.
        rule = Rule(1, 1, [(False, 2, 1, 0, 1), (True, 0, 0, 0, 0), (False, 2, 0, 0, 0)])
        self.assertIsNone(silence(rule))
        self.check(rule)

    def test_drawn(self):
        rules = KNOWN + drawn_rules(61, 300)
        for rule in rules:
            self.assertEqual(round_weaving(rule) is None, silence(rule) is not None)
            if silence(rule) is None:
                self.check(rule)


class GuaranteesTest(unittest.TestCase):
    """What [8] promises, over many rules."""

    def setUp(self):
        self.rules = KNOWN + drawn_rules(71, 250) + drawn_rules(72, 80, states=2)

    def test_none_exactly_if_endless(self):
        found = [0, 0]
        for rule in self.rules:
            self.assertEqual(silence(rule) is None, endless(rule) != [], told_of(rule))
            found[silence(rule) is None] += 1
        self.assertGreater(min(found), 30)

    def test_at_most(self):
        for rule in self.rules:
            most = silence(rule)
            if most is not None:
                quiet = [pair for pairs in company(rule) for pair in pairs if not rule[pair[0]][0]]
                self.assertLessEqual(most, 1 + rule.losses + (rule.losses + 1) * len(quiet))

    def test_table(self):
        for rule in self.rules:
            told = table(rule)
            most = silence(rule)
            self.assertEqual(told is None, most is None)
            if told is not None:
                self.assertIs(judge(rule, told), True)
                first = beginnings(rule)
                self.assertEqual(max(number for standing, number in told if standing in first), most)

    def test_weaving_and_table_agree(self):
        for rule in self.rules:
            most = silence(rule)
            if most is not None:
                self.assertEqual(best(rule, weaving(rule, most)), most)

    def test_more_members_never_make_it_less(self):
        for rule in self.rules:
            numbers = (1, 2, 3) if len(rule) < 4 else (1, 2)
            told = [as_number(silence_of(rule, number)) for number in numbers] + [as_number(silence(rule))]
            self.assertEqual(told, sorted(told))

    def test_drawn_weavings_have_no_greater_silence(self):
        draw = random.Random(73)
        for rule in self.rules[:150]:
            for most in (1, 2, 9999):
                woven, _ = drawn_weaving(draw, rule, 40, most)
                bound = as_number(silence_of(rule, most) if most < 3 else silence(rule))
                for member in members_of(woven):
                    self.assertLessEqual(silence_in(rule, woven, member), bound)

    def test_asked_in_any_order(self):
        calls = [silence, alone, least_keep, round_weaving, table, company, endless, lambda rule: silence_of(rule, 2),
                 lambda rule: weaving(rule, 5), lambda rule: weaving_of(rule, 5, 2), lambda rule: alike(rule, WAITS)]
        draw = random.Random(74)
        for rule in self.rules[:60]:
            told = [call(Rule(rule.every, rule.losses, rule.states)) for call in calls]
            order = list(range(len(calls))) * 2
            draw.shuffle(order)
            for index in order:
                self.assertEqual(calls[index](rule), told[index])


if __name__ == "__main__":
    unittest.main()
