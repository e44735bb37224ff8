import copy
import itertools
import random
import unittest

from helpers import ALWAYS, FEW, HEARD, NEVER, STILL, WAITS, lists_in
from oneforall.rules import Rule
from oneforall.tables import beginnings, company, endless, following, judge, table
from oneforall.weavings import replay

STAY = [(False, state, state, state, state) for state in range(1, 5)]


def tells(every, losses, speaks):
    """State 0 goes on to another state, which is kept, for each thing that is heard."""
    return Rule(every, losses, [(speaks, 1, 2, 3, 4)] + STAY)


def pairs_of(states, lost):
    return [(state, lost) for state in states]


def small_rules():
    """All rules of two states, in which the first one goes on to the other one in some way."""
    nexts = list(itertools.product([0, 1], repeat=4))
    for every, losses in ((1, 0), (2, 1), (3, 0)):
        for one, other in itertools.product(nexts, nexts[::3]):
            for speaks in ((False, True), (True, False)):
                yield Rule(every, losses, [(speaks[0],) + one, (speaks[1],) + other])


def drawn_rules(seed, many):
    draw = random.Random(seed)
    for _ in range(many):
        states = [(draw.random() < 0.4,) + tuple(draw.randrange(4) for _ in range(4)) for _ in range(4)]
        yield Rule(draw.randint(1, 3), draw.randint(0, 1), states)


class ExampleTest(unittest.TestCase):

    def test_first(self):
        self.assertEqual(
            [beginnings(ALWAYS), following(ALWAYS, (0, 0, 0, 0, [])), table(ALWAYS),
             judge(ALWAYS, [((0, 0, 0, 0, [(0, 0)]), 5)])],
            [[(0, 0, 0, 0, [(0, 0)])], [], [((0, 0, 0, 0, [(0, 0)]), 0)], True])

    def test_second(self):
        self.assertEqual([table(NEVER), judge(ALWAYS, []), following(WAITS, (1, 1, 0, 0, []))],
                         [None, False, [(0, 0, 0, 1, [(0, 0)])]])

    def test_third(self):
        self.assertEqual([company(WAITS), endless(WAITS), endless(NEVER)],
                         [[[(0, 0), (0, 1)], [(0, 1), (1, 0)]], [], [(0, 0, 0)]])


class CallingTest(unittest.TestCase):

    def test_by_name(self):
        self.assertEqual(company(rule=WAITS), company(WAITS))
        self.assertEqual(beginnings(rule=WAITS), beginnings(WAITS))
        self.assertEqual(following(standing=(1, 1, 0, 0, []), rule=WAITS), [(0, 0, 0, 1, [(0, 0)])])
        self.assertEqual(table(rule=WAITS), table(WAITS))
        self.assertIs(judge(told=table(WAITS), rule=WAITS), True)
        self.assertEqual(endless(rule=NEVER), [(0, 0, 0)])

    def test_arguments_stay(self):
        others = [(0, 1), (1, 0)]
        following(WAITS, (1, 1, 0, 0, others))
        self.assertEqual(others, [(0, 1), (1, 0)])
        told = table(WAITS)[::-1]
        before = copy.deepcopy(told)
        judge(WAITS, told)
        self.assertEqual(told, before)
        self.assertEqual(WAITS, Rule(2, 1, [(False, 0, 1, 0, 0), (True, 0, 0, 0, 0)]))

    def test_each_list_stands_in_one_place(self):
        others = [(0, 0), (1, 0)]
        for rule in (WAITS, STILL, tells(3, 1, True)):
            standing = (0, 0, 0, 0, others)
            answers = [company(rule), beginnings(rule), following(rule, standing), table(rule), endless(rule)]
            answers += [company(rule), beginnings(rule), following(rule, standing), table(rule), endless(rule)]
            found = lists_in(answers)
            self.assertEqual(len({id(part) for part in found}), len(found))
            self.assertNotIn(id(others), {id(part) for part in found})

    def test_told_lists_may_be_changed(self):
        calls = [lambda: company(WAITS), lambda: beginnings(WAITS), lambda: table(WAITS), lambda: endless(NEVER),
                 lambda: following(WAITS, (0, 0, 0, 0, [(0, 0)]))]
        for call in calls:
            before = copy.deepcopy(call())
            for part in lists_in(call()):
                part.clear()
            self.assertEqual(call(), before)

    def test_kinds(self):
        for standing, number in table(WAITS):
            self.assertEqual([type(part) for part in standing], [int, int, int, int, list])
            self.assertIs(type(number), int)
            self.assertEqual({type(pair) for pair in standing[4]}, {tuple})
        self.assertEqual({type(pairs) for pairs in company(WAITS)}, {list})
        self.assertIs(judge(WAITS, []), False)
        self.assertIs(judge(WAITS, table(WAITS)), True)


class CompanyTest(unittest.TestCase):

    def test_one_state(self):
        for speaks in (True, False):
            self.assertEqual(company(Rule(1, 0, [(speaks, 0, 0, 0, 0)])), [[(0, 0)]])
            self.assertEqual(company(Rule(1, 3, [(speaks, 0, 0, 0, 0)])), [pairs_of([0], 0) + [(0, 1), (0, 2), (0, 3)]])

    def test_what_is_heard(self):
        self.assertEqual(company(tells(1, 0, False)), [[(2, 0)]])
        self.assertEqual(company(tells(1, 0, True)), [[(2, 0), (4, 0)]])
        self.assertEqual(company(tells(1, 1, False)), [[(1, 0), (1, 1), (2, 0), (2, 1)]])
        self.assertEqual(company(tells(1, 1, True)), [[(state, lost) for state in range(1, 5) for lost in (0, 1)]])

    def test_phases(self):
        self.assertEqual(company(tells(2, 0, False)), [pairs_of([1, 2], 0)] * 2)
        self.assertEqual(company(tells(2, 0, True)), [pairs_of([1, 2, 3, 4], 0)] * 2)
        clock = Rule(3, 0, [(False, 1, 1, 1, 1), (False, 2, 2, 2, 2), (False, 2, 2, 2, 2)])
        self.assertEqual(company(clock), [pairs_of([1, 2], 0)] * 3)

    def test_no_asking_leaves_what_was_lost(self):
        rule = Rule(3, 1, [(False, 0, 0, 0, 0)])
        self.assertEqual(company(rule), [pairs_of([0], 0) + [(0, 1)]] * 3)
        # Who comes behind the asking has lost none, so (0, 0) is ahead of each beat.
        rule = Rule(3, 1, [(False, 1, 0, 0, 0), (False, 1, 1, 1, 1)])
        self.assertEqual(company(rule), [[(1, 0), (1, 1)], [(0, 0), (1, 0), (1, 1)], [(1, 0), (1, 1)]])

    def test_one_that_comes_may_answer(self):
        rule = Rule(1, 0, [(True, 1, 1, 2, 2), (False, 1, 1, 1, 1), (False, 2, 2, 2, 2)])
        self.assertEqual(company(rule), [[(1, 0), (2, 0)]])

    def test_answers_only_in_the_phases_that_have_them(self):
        # In phase 0 one comes, answers behind it in phase 1, and is in state 2 in phase 2: state 3 tells of answers.
        rule = Rule(3, 0, [(False, 0, 1, 3, 0), (True, 2, 2, 2, 2), (False, 2, 2, 2, 2), (False, 3, 3, 3, 3)])
        self.assertEqual(company(rule), [pairs_of([0, 2, 3], 0), pairs_of([1, 2, 3], 0), pairs_of([0, 2, 3], 0)])

    def test_all_that_comes_about_is_in_it(self):
        draw = random.Random(8)
        for rule in drawn_rules(9, 60):
            lists = company(rule)
            self.assertEqual(len(lists), rule.every)
            for number, pairs in run(draw, rule, 40):
                for pair in pairs:
                    self.assertIn(pair, lists[number % rule.every])


def run(draw, rule, beats):
    """The number of each beat, and the pairs of the members that came ahead of it, as it is drawn."""
    weaving, there = [], {}
    for number in range(beats):
        yield number, list(there.values())
        comes = [2 * number, 2 * number + 1][:draw.randint(0, 2)]
        goes = [member for member in there if draw.random() < 0.15]
        lost = {member: there.get(member, (0, 0))[1] for member in list(there) + comes if member not in goes}
        losses = []
        if number % rule.every == 0:
            for member in lost:
                if lost[member] < rule.losses and draw.random() < 0.5:
                    losses.append((member, "asking"))
                    lost[member] += 1
                else:
                    lost[member] = 0
        weaving.append((comes, goes, False, losses))
        answers = replay(rule, weaving)[-1][0]
        for member in lost:
            if [other for other in answers if other != member] and draw.random() < 0.5:
                losses.append((member, "answer"))
        there = {member: (state, lost[member]) for member, state in replay(rule, weaving)[-1][2]}


class BeginningsTest(unittest.TestCase):

    def test_who_comes(self):
        self.assertEqual(beginnings(NEVER), [(0, 0, 0, 0, [(0, 0)])])
        self.assertEqual(beginnings(tells(1, 0, False)), [(0, 0, 0, 0, [(2, 0)])])

    def test_behind_an_answer_of_one_that_comes(self):
        others = [(2, 0), (4, 0)]
        self.assertEqual(beginnings(tells(1, 0, True)),
                         [(0, 0, 0, 0, others), (0, 2, 0, 0, others), (0, 4, 0, 0, others)])

    def test_behind_the_phase_that_has_answers(self):
        ahead, behind = [(0, 0), (0, 1)], [(0, 1), (1, 0)]
        self.assertEqual(beginnings(WAITS), [(0, 0, 0, 0, ahead), (0, 0, 1, 0, ahead), (1, 0, 0, 0, behind)])

    def test_behind_answers_ahead_of_a_later_phase(self):
        # State 1 answers, and only ahead of a beat of phase 2.
        rule = Rule(3, 0, [(False, 0, 2, 0, 0), (True, 0, 0, 0, 0), (False, 1, 1, 1, 1)])
        lists = [[(0, 0)], [(2, 0)], [(0, 0), (1, 0)]]
        self.assertEqual(company(rule), lists)
        self.assertEqual(beginnings(rule), [(0, 0, 0, 0, lists[0]), (1, 0, 0, 0, lists[1]), (2, 0, 0, 0, lists[2])])
        # And here of phase 1, so silences begin ahead of phase 2.
        rule = Rule(3, 0, [(False, 0, 1, 0, 0), (True, 2, 2, 2, 2), (False, 0, 0, 0, 0)])
        lists = [[(0, 0)], [(1, 0)], [(0, 0), (2, 0)]]
        self.assertEqual(company(rule), lists)
        self.assertEqual(beginnings(rule), [(0, 0, 0, 0, lists[0]), (1, 0, 0, 0, lists[1]), (2, 0, 0, 0, lists[2]),
                                            (2, 2, 0, 0, lists[2])])

    def test_ascending_once_each(self):
        for rule in drawn_rules(3, 40):
            found = beginnings(rule)
            self.assertEqual(found, sorted(found))
            self.assertEqual(len({str(standing) for standing in found}), len(found))
            lists = company(rule)
            for phase, state, lost, deaf, others in found:
                self.assertEqual((deaf, others), (0, lists[phase]))
                self.assertIn((state, lost), lists[phase] + [(0, 0)])


class FollowingTest(unittest.TestCase):

    def follows(self, rule, standing, expected):
        self.assertEqual(following(rule, standing), expected)

    def test_router_hears_the_watched_one(self):
        self.follows(ALWAYS, (0, 0, 0, 0, [(0, 0)]), [])
        self.follows(Rule(1, 1, [(True, 0, 0, 0, 0)]), (0, 0, 0, 1, []), [])

    def test_nobody_speaks(self):
        self.follows(tells(1, 0, False), (0, 0, 0, 0, []), [(0, 2, 0, 0, [(2, 0)])])
        self.follows(tells(2, 0, False), (0, 0, 0, 0, []), [(1, 2, 0, 0, [(2, 0)])])
        self.follows(tells(2, 0, False), (1, 0, 0, 0, []), [(0, 1, 0, 0, [(1, 0)])])

    def test_asking_may_be_lost(self):
        behind = [(1, 1), (2, 0)]
        self.follows(tells(2, 1, False), (0, 0, 0, 0, []), [(1, 1, 1, 0, behind), (1, 2, 0, 0, behind)])
        self.follows(tells(2, 1, False), (0, 0, 1, 0, []), [(1, 2, 0, 0, behind)])
        self.follows(tells(2, 1, False), (1, 0, 1, 0, [(3, 1)]), [(0, 1, 1, 0, [(1, 0), (3, 1)])])

    def test_lost_is_none_behind_an_asking_that_is_heard(self):
        rule = Rule(1, 2, [(False, 0, 0, 0, 0)])
        self.follows(rule, (0, 0, 1, 0, [(0, 2)]),
                     [(0, 0, 0, 0, [(0, 0), (0, 1)]), (0, 0, 2, 0, [(0, 0), (0, 1)])])
        self.follows(rule, (0, 0, 2, 0, [(0, 1)]), [(0, 0, 0, 0, [(0, 0), (0, 1), (0, 2)])])

    def test_others_answer_and_the_router_may_be_deaf(self):
        # State 1 answers and state 0 is left by what is heard.
        rule = Rule(2, 1, [(False, 2, 3, 4, 5), (True, 1, 1, 1, 1)]
                    + [(False, state, state, state, state) for state in range(2, 6)])
        none = [(2, 0)]
        some = [(1, 0), (2, 0), (4, 0)]
        self.follows(rule, (1, 0, 0, 0, [(1, 0)]), [(0, 2, 0, 0, none), (0, 2, 0, 1, some), (0, 4, 0, 1, some)])
        self.follows(rule, (1, 0, 0, 1, [(1, 0)]), [(0, 2, 0, 1, none)])
        none = [(2, 1), (3, 0)]
        some = [(1, 0), (1, 1), (2, 1), (3, 0), (4, 1), (5, 0)]
        self.follows(rule, (0, 0, 0, 0, [(1, 0)]),
                     [(1, 2, 1, 0, none), (1, 2, 1, 1, some), (1, 3, 0, 0, none), (1, 3, 0, 1, some),
                      (1, 4, 1, 1, some), (1, 5, 0, 1, some)])
        self.follows(rule, (0, 0, 0, 1, [(1, 0)]), [(1, 2, 1, 1, none), (1, 3, 0, 1, none)])

    def test_the_watched_one_answers(self):
        rule = Rule(1, 1, [(False, 0, 2, 0, 3), (True, 0, 4, 0, 5)]
                    + [(False, state, state, state, state) for state in range(2, 6)])
        # No other one speaks: the watched one hears none, the others may hear it.
        self.follows(rule, (0, 1, 1, 0, []), [(0, 4, 0, 1, [(0, 1), (2, 0), (3, 0)])])
        # Another one may answer beside it, and then may still be there.
        self.follows(rule, (0, 1, 1, 0, [(1, 1)]),
                     [(0, 4, 0, 1, [(0, 1), (2, 0), (3, 0)]), (0, 4, 0, 1, [(0, 1), (2, 0), (3, 0), (4, 0), (5, 0)]),
                      (0, 5, 0, 1, [(0, 1), (2, 0), (3, 0), (4, 0), (5, 0)])])
        self.follows(rule, (0, 1, 1, 1, [(1, 1)]), [])

    def test_one_that_comes_may_answer(self):
        rule = Rule(1, 1, [(True, 1, 1, 2, 2), (False, 1, 1, 1, 1), (False, 2, 2, 2, 2)])
        self.follows(rule, (0, 1, 1, 0, []), [(0, 1, 0, 0, []), (0, 1, 0, 1, [(1, 0), (1, 1), (2, 0), (2, 1)])])
        self.follows(rule, (0, 1, 1, 1, []), [(0, 1, 0, 1, [])])

    def test_deaf_stays_without_answers(self):
        rule = Rule(3, 2, [(False, 0, 0, 0, 0)])
        for deaf in range(3):
            self.follows(rule, (2, 0, 0, deaf, []), [(0, 0, 0, deaf, [(0, 0)])])

    def test_no_error_somewhat_beyond_the_bounds(self):
        self.follows(NEVER, (0, 0, 1, 1, [(0, 1)]), [(0, 0, 0, 1, [(0, 0)])])
        self.follows(ALWAYS, (0, 0, 1, 1, [(0, 1)]), [])

    def test_each_deaf_beat_counts(self):
        rule = Rule(3, 2, [(True, 0, 0, 0, 0)])
        self.follows(rule, (2, 0, 0, 0, []), [(0, 0, 0, 1, []), (0, 0, 0, 1, [(0, 0)])])
        self.follows(rule, (2, 0, 0, 1, []), [(0, 0, 0, 2, []), (0, 0, 0, 2, [(0, 0)])])
        self.follows(rule, (2, 0, 0, 2, []), [])

    def test_ascending_once_each(self):
        for rule in drawn_rules(4, 40):
            for standing in beginnings(rule):
                found = following(rule, standing)
                self.assertEqual(found, sorted(found))
                self.assertEqual(len({str(each) for each in found}), len(found))
                for each in found:
                    self.assertEqual(each[4], sorted(set(each[4])))

    def test_more_others_leave_more(self):
        for rule in drawn_rules(11, 20):
            pairs = [(state, lost) for state in range(4) for lost in range(rule.losses + 1)]
            for state, lost in pairs:
                few = following(rule, (0, state, lost, 0, pairs[::2]))
                many = following(rule, (0, state, lost, 0, pairs))
                for standing in few:
                    self.assertTrue([each for each in many
                                     if each[:4] == standing[:4] and set(each[4]) >= set(standing[4])])

    def test_every_weaving_follows_it(self):
        draw = random.Random(2)
        for rule in drawn_rules(21, 60):
            for _ in range(4):
                self.follow_a_silence(draw, rule)

    def follow_a_silence(self, draw, rule):
        """A silence of member 0, in which any others that the company has may have come before."""
        phase = draw.randrange(rule.every)
        lists = company(rule)
        others = [draw.choice(lists[phase]) for _ in range(draw.randint(0, 3))]
        watched, deaf = (0, 0), 0
        standings = [(phase, 0, 0, 0, lists[phase])]
        while standings and len(others) < 12:
            others += [(0, 0)] * draw.randint(0, 1)
            others = [pair for pair in others if draw.random() < 0.9]
            members = [watched] + others
            speaking = [index for index, pair in enumerate(members) if rule[pair[0]][0]]
            if speaking:
                deaf += 1
                if deaf > rule.losses:
                    return
            members = [self.go_on(draw, rule, phase, pair, [other for other in speaking if other != index])
                       for index, pair in enumerate(members)]
            watched, others = members[0], members[1:]
            phase = (phase + 1) % rule.every
            standings = [each for standing in standings for each in following(rule, standing)
                         if each[:4] == (phase,) + watched + (deaf,) and set(others) <= set(each[4])]
            self.assertTrue(standings, (rule.every, rule.losses, rule.states))
            standings = standings[:5]
            if draw.random() < 0.05:
                return

    def go_on(self, draw, rule, phase, pair, answers):
        place, lost = 1, pair[1]
        if phase == 0:
            if lost < rule.losses and draw.random() < 0.5:
                lost += 1
            else:
                place, lost = 2, 0
        if answers and draw.random() < 0.5:
            place += 2
        return (rule[pair[0]][place], lost)


def greatest(rule):
    """The greatest number of a beginning, or None."""
    told = table(rule)
    if told is None:
        return None
    first = beginnings(rule)
    return max(number for standing, number in told if standing in first)


class TableTest(unittest.TestCase):

    def test_no_bound(self):
        for rule in (NEVER, HEARD, FEW, tells(1, 0, True), tells(2, 1, False)):
            self.assertIsNone(table(rule))

    def test_bounds(self):
        self.assertEqual([greatest(rule) for rule in (ALWAYS, WAITS, STILL)], [0, 8, 2])
        for losses in range(4):
            self.assertEqual(greatest(Rule(1, losses, [(True, 0, 0, 0, 0)])), losses)

    def test_a_whole_table(self):
        rule = Rule(1, 1, [(True, 0, 0, 0, 0)])
        both = [(0, 0), (0, 1)]
        # Behind the first beat others may all have gone, then all that are there came just now.
        self.assertEqual(table(rule), [((0, 0, 0, 0, both), 1), ((0, 0, 0, 1, []), 0), ((0, 0, 0, 1, both), 0),
                                       ((0, 0, 1, 0, both), 1), ((0, 0, 1, 1, []), 0), ((0, 0, 1, 1, both), 0)])

    def test_every_entry(self):
        for rule in list(small_rules()) + list(drawn_rules(1, 150)):
            told = table(rule)
            ends = endless(rule)
            # [8]: the silence is None exactly if `endless` has a tuple.
            self.assertEqual(told is None, ends != [], (rule.every, rule.losses, rule.states))
            if told is not None:
                self.check(rule, told)

    def check(self, rule, told):
        self.assertEqual(told, sorted(told))
        numbers = {str(standing): number for standing, number in told}
        self.assertEqual(len(numbers), len(told))
        needed = {str(standing) for standing in beginnings(rule)}
        for standing, number in told:
            follows = [str(each) for each in following(rule, standing)]
            needed.update(follows)
            self.assertEqual(number, max([numbers[each] + 1 for each in follows], default=0))
        self.assertEqual(needed, set(numbers))
        self.assertTrue(judge(rule, told))
        pairs = [pair for pairs in company(rule) for pair in pairs if not rule[pair[0]][0]]
        most = 1 + rule.losses + (rule.losses + 1) * len(pairs)
        self.assertLessEqual(greatest(rule), most)

    def test_no_member_alone_is_silent_for_longer(self):
        for rule in drawn_rules(31, 150):
            most = greatest(rule)
            if most is not None:
                self.assertLessEqual(self.alone(rule, most + 2), most)

    def alone(self, rule, stop):
        """The greatest silence of one member alone, by trying all losses, cut off at a number."""
        begun = {(phase, 0, 0) for phase in range(rule.every)}
        most = 0
        # What the member is in behind an answer that is heard begins a silence, too.
        waiting = list(begun)
        while waiting:
            phase, state, lost = waiting.pop()
            layer = {(phase, state, lost, 0)}
            count = 0
            while layer and count < stop:
                most = max(most, count)
                behind = set()
                for phase, state, lost, deaf in layer:
                    for place, left in self.hearings(rule, phase, lost):
                        after = ((phase + 1) % rule.every, rule[state][place], left)
                        if rule[state][0]:
                            if after not in begun:
                                begun.add(after)
                                waiting.append(after)
                            if deaf < rule.losses:
                                behind.add(after + (deaf + 1,))
                        else:
                            behind.add(after + (deaf,))
                layer = behind
                count += 1
        return most

    def hearings(self, rule, phase, lost):
        if phase > 0:
            return [(1, lost)]
        return [(2, 0)] + [(1, lost + 1)] * (lost < rule.losses)


class JudgeTest(unittest.TestCase):

    def test_tables_hold(self):
        for rule in (ALWAYS, WAITS, STILL):
            told = table(rule)
            self.assertIs(judge(rule, told), True)
            self.assertIs(judge(rule, told[::-1]), True)
            self.assertIs(judge(rule, [(standing, 2 * number + 3) for standing, number in told]), True)

    def test_each_is_needed(self):
        for rule in (ALWAYS, WAITS, STILL):
            told = table(rule)
            for index in range(len(told)):
                self.assertIs(judge(rule, told[:index] + told[index + 1:]), False)

    def test_no_number_may_be_less(self):
        told = table(WAITS)
        for index, (standing, number) in enumerate(told):
            self.assertIs(judge(WAITS, told[:index] + [(standing, number - 1)] + told[index + 1:]), False)

    def test_nor_as_great_as_one_ahead(self):
        told = table(WAITS)
        numbers = {str(standing): number for standing, number in told}
        for standing, number in told:
            for each in following(WAITS, standing):
                changed = [(one, number if one == each else many) for one, many in told]
                self.assertIs(judge(WAITS, changed), False)
        self.assertEqual(max(numbers.values()), 8)

    def test_below_zero(self):
        standing = (0, 0, 0, 0, [(0, 0)])
        self.assertIs(judge(ALWAYS, [(standing, 0)]), True)
        self.assertIs(judge(ALWAYS, [(standing, -1)]), False)
        self.assertIs(judge(ALWAYS, [(standing, 0), ((0, 0, 0, 0, []), -1)]), False)

    def test_twice(self):
        standing = (0, 0, 0, 0, [(0, 0)])
        self.assertIs(judge(ALWAYS, [(standing, 4), (standing, 4)]), False)
        self.assertIs(judge(ALWAYS, [(standing, 4), ((0, 0, 0, 0, [(0, 0)]), 5)]), False)

    def test_empty_list(self):
        for rule in (ALWAYS, NEVER, WAITS):
            self.assertIs(judge(rule, []), False)

    def test_more_standings_than_come_about(self):
        told = [((0, 0, 0, 0, [(0, 0)]), 0), ((0, 0, 0, 0, []), 999)]
        self.assertIs(judge(ALWAYS, told), True)
        # What follows the additional one is asked for, too.
        extra = (1, 1, 0, 0, [])
        told = table(WAITS)
        self.assertNotIn(extra, [standing for standing, number in told])
        self.assertIs(judge(WAITS, told + [(extra, 999)]), False)
        self.assertEqual(following(WAITS, extra), [(0, 0, 0, 1, [(0, 0)])])
        self.assertIs(judge(WAITS, told + [(extra, 999), ((0, 0, 0, 1, [(0, 0)]), 998)]), True)
        self.assertIs(judge(WAITS, told + [(extra, 999), ((0, 0, 0, 1, [(0, 0)]), 999)]), False)

    def test_a_circle_never_falls(self):
        standing = (0, 0, 0, 0, [(0, 0)])
        self.assertEqual(following(NEVER, standing), [standing])
        for number in (0, 1, 999):
            self.assertIs(judge(NEVER, [(standing, number)]), False)

    def test_the_list_of_others_counts(self):
        self.assertIs(judge(ALWAYS, [((0, 0, 0, 0, []), 0)]), False)


class EndlessTest(unittest.TestCase):

    def test_none(self):
        for rule in (ALWAYS, WAITS, STILL):
            self.assertEqual(endless(rule), [])

    def test_only_pairs_of_the_company(self):
        self.assertEqual(endless(tells(1, 0, False)), [(0, 2, 0)])
        self.assertEqual(endless(HEARD), [(0, 1, 0)])
        self.assertEqual(endless(FEW), [(0, 3, 0)])

    def test_phases_and_losses(self):
        rule = Rule(2, 1, [(False, 0, 0, 0, 0)])
        self.assertEqual(endless(rule), [(0, 0, 0), (0, 0, 1), (1, 0, 0), (1, 0, 1)])

    def test_not_where_it_speaks(self):
        rule = Rule(1, 0, [(True, 1, 1, 1, 1), (False, 2, 2, 2, 2), (False, 1, 1, 1, 1)])
        self.assertEqual(endless(rule), [(0, 1, 0), (0, 2, 0)])
        rule = Rule(1, 0, [(True, 1, 1, 1, 1), (False, 2, 2, 2, 2), (True, 1, 1, 1, 1)])
        self.assertEqual(endless(rule), [])

    def test_a_long_way_to_an_answer(self):
        rule = Rule(1, 0, [(False, 1, 1, 1, 1), (False, 2, 2, 2, 2), (False, 3, 3, 3, 3), (True, 0, 0, 0, 0)])
        self.assertEqual(endless(rule), [])

    def test_answers_do_not_help(self):
        # Only by an answer can a member stay quiet here.
        rule = Rule(1, 0, [(False, 1, 1, 0, 0), (True, 0, 0, 0, 0)])
        self.assertEqual(company(rule), [[(0, 0), (1, 0)]])
        self.assertEqual(endless(rule), [])

    def test_a_lost_asking_only_so_often(self):
        rule = Rule(1, 1, [(False, 0, 1, 0, 1), (True, 0, 0, 0, 0)])
        self.assertEqual(endless(rule), [])
        rule = Rule(1, 1, [(False, 2, 1, 0, 1), (True, 0, 0, 0, 0), (False, 2, 0, 0, 0)])
        self.assertEqual(endless(rule), [(0, 0, 0), (0, 2, 1)])


if __name__ == "__main__":
    unittest.main()
