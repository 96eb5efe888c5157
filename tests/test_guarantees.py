"""The guarantees of point [4], for drawn states and for the drawn histories of whole groups."""

import itertools
import random
import unittest

import linear
from histories import History, all_told, drawn_call, drawn_history, new_group
from lastheld.errors import Impossible
from lastheld.groups import Group
from lastheld.joining import forecast, joined
from lastheld.replicas import Replica
from lastheld.settings import is_stronger
from lastheld.spaces import Space
from lastheld.states import State
from lastheld.wishes import can_be_met, conflict, fulfil_in_group, is_conflict
from models import Small, random_settings, small_cases, value_total


def without_values(settings):
    return [setting[:4] for setting in settings]


def with_other_values(source, settings):
    return [(*setting[:4], source.choice([0, 5, -5, (1, 7), 10 ** 20])) for setting in settings]


class StateGuaranteeTest(unittest.TestCase):
    def test_few(self):
        for case in small_cases(7):
            state = case.state()
            self.assertEqual(len(state.base()), state.freedom)
            self.assertEqual(state.freedom, case.width - linear.rank(case.width, case.equations))
            self.assertLessEqual(len(state), state.freedom)
            self.assertEqual([setting[3] for setting in state.held()], state.base()[:len(state)])

    def test_best(self):
        for case in small_cases(5):
            kept = case.state().held()
            for length in range(len(case.settings) + 1):
                for chosen in itertools.combinations(case.settings, length):
                    if linear.are_free(case.found, case.places(chosen)):
                        self.assertGreaterEqual(len(kept), length)
                        for own, other in zip(kept, case.sorted(chosen)):
                            self.assertGreaterEqual(case.key(own), case.key(other))

    def test_values_decide_nothing(self):
        source = random.Random(70)
        for case in small_cases(6):
            settings = list({setting[:4]: setting for setting in case.settings}.values())
            one, other = State(case.space, settings), State(case.space, with_other_values(source, settings))
            self.assertEqual(without_values(one.held()), without_values(other.held()))
            self.assertEqual([one.base(), one.clock, repr(one)], [other.base(), other.clock, repr(other)])
            for field in case.fields:
                self.assertEqual(one.expression(field), other.expression(field))
                self.assertEqual(one.least_level(field), other.least_level(field))
            for setting in random_settings(source, case.fields, 5):
                if setting[:4] not in without_values(settings):
                    changed = with_other_values(source, [setting])[0]
                    self.assertEqual(one.reason(setting), other.reason(changed))
                    self.assertEqual(one.holds(setting), other.holds(changed))

    def test_parts(self):
        source = random.Random(71)
        for case in small_cases(7):
            state = case.state()
            for part in case.space.components():
                inside = [setting for setting in case.settings if setting[3] in part]
                others = [field for field in case.fields if field not in part]
                more = random_settings(source, others, 4) if others else []
                for given in [inside, inside + more]:
                    other = State(case.space, given)
                    self.assertEqual([setting for setting in other.held() if setting[3] in part],
                                     [setting for setting in state.held() if setting[3] in part])
                    for field in part:
                        self.assertEqual(other.value_of(field), state.value_of(field))
                        self.assertEqual(other.setting_of(field), state.setting_of(field))


def drawn_groups(seed, count=25):
    """Groups after drawn histories."""
    source = random.Random(seed)
    return [drawn_history(source)[0].group for _ in range(count)]


def known_case(group, name):
    """All that a replica of a group knows, for the rules of the tests themselves."""
    return Small(group.sheet().width, group.known_equations(name), group.known_settings(name))


class GroupGuaranteeTest(unittest.TestCase):
    def test_always_true_and_nothing_lost_and_few(self):
        source = random.Random(120)
        for _ in range(25):
            history = History(new_group(source))
            for _ in range(40):
                history.done(drawn_call(source, history.group))
                name = source.choice(history.group.names())
                state = history.group.state(name)
                for equation in history.equations[name]:
                    self.assertEqual(value_total(equation, state.all_values()), 0)
                space = Space(history.group.sheet(), list(history.equations[name]))
                self.assertEqual(state, State(space, list(history.settings[name])))
                self.assertEqual(len(state.base()), space.freedom)
                self.assertLessEqual(len(state), space.freedom)

    def test_by_the_rules_of_the_tests(self):
        for group in drawn_groups(121):
            for name in group.names():
                case, state = known_case(group, name), group.state(name)
                self.assertEqual(state.held(), case.own_held())
                self.assertEqual(state.base(), case.own_base())
                self.assertEqual(state.all_values(), case.own_values())

    def test_one_state(self):
        source = random.Random(122)
        for group in drawn_groups(123):
            states = [group.state(name) for name in group.names()]
            wanted = joined(*states)
            mixed = source.sample(states * 2, len(states) * 2)
            whole = mixed[0]
            for state in mixed[1:]:
                whole = joined(state, whole) if source.random() < 0.5 else joined(whole, state)
            self.assertEqual(whole, wanted)
            all_told(source, group)
            self.assertEqual([group.state(name) for name in group.names()], [wanted] * len(group))

    def test_best(self):
        source = random.Random(124)
        for group in drawn_groups(125):
            name = source.choice(group.names())
            case = known_case(group, name)
            kept = group.state(name).held()
            for length in range(case.space.freedom + 1):
                for _ in range(15):
                    chosen = source.sample(case.settings, min(length, len(case.settings)))
                    if linear.are_free(case.found, case.places(chosen)):
                        self.assertGreaterEqual(len(kept), len(chosen))
                        for own, other in zip(kept, case.sorted(chosen)):
                            self.assertGreaterEqual(case.key(own), case.key(other))

    def test_one_at_a_time(self):
        source = random.Random(126)
        counts = {"assign": 0, "add_equation": 0}
        for _ in range(30):
            history = History(new_group(source))
            for _ in range(40):
                call = drawn_call(source, history.group)
                before = history.group.state(call[1]) if call[0] in counts else None
                leaving = history.done(call)
                if call[0] in counts and leaving is not None:
                    counts[call[0]] += 1
                    field = call[2] if call[0] == "assign" else None
                    self.assert_one_leaves(before, history.group.state(call[1]), field, leaving)
        self.assertGreater(min(counts.values()), 20)

    def assert_one_leaves(self, before, after, field, leaving):
        left = [given for given in before.base() if given != leaving]
        self.assertEqual(len(left), len(before.base()) - 1)
        self.assertEqual(sorted(after.base()), sorted(left + ([] if field is None else [field])))
        for other in before.all_values():
            if leaving not in before.expression(other) and other != field:
                self.assertEqual(after.value_of(other), before.value_of(other))

    def test_reasons(self):
        source = random.Random(127)
        counts = {True: 0, False: 0}
        for group in drawn_groups(128):
            name = source.choice(group.names())
            state, case = group.state(name), known_case(group, name)
            for setting in case.settings[:6] + random_settings(source, case.fields, 6):
                stronger = [own for own in state.held() if is_stronger(group.sheet(), own, setting)]
                determined = linear.determine(case.found, case.places(stronger), case.fields.index(setting[3]))
                self.assertIs(state.holds(setting), not determined)
                counts[determined] += 1
                if determined:
                    reason = state.reason(setting)
                    self.assertEqual(reason, group.state(name).space().expression(setting[3], state.base()))
                    self.assertLessEqual(set(reason), {own[3] for own in stronger})
        self.assertGreater(min(counts.values()), 30)

    def test_values_decide_nothing(self):
        source = random.Random(129)
        for _ in range(25):
            history, calls = drawn_history(source)
            other = History(Group(history.group.sheet(), history.group.names()))
            again = History(Group(history.group.sheet(), history.group.names()))
            for call in calls:
                changed = call
                if call[0] == "assign":
                    changed = (*call[:3], source.choice([0, 7, (-1, 9)]), call[4])
                results = [again.done(call), other.done(changed)]
                if call[0] != "deliver":
                    self.assertEqual(*results)
            for name in history.group.names():
                one, two = history.group.state(name), other.group.state(name)
                self.assertEqual(again.group.state(name), one)
                self.assertEqual([one.base(), without_values(one.held()), one.space(), one.clock],
                                 [two.base(), without_values(two.held()), two.space(), two.clock])
                for field in one.all_values():
                    self.assertEqual(one.expression(field), two.expression(field))

    def test_forecasts(self):
        source = random.Random(130)
        for group in drawn_groups(131):
            one, other = source.choice(group.names()), source.choice(group.names())
            before = [group.state(one), group.state(other)]
            held, *steady = forecast(*before)
            numbers = [group.send(one), group.send(other)]
            group.deliver(numbers[1], to=one)
            group.deliver(numbers[0], to=other)
            for name, state, fields in zip([one, other], before, steady):
                self.assertEqual(group.state(name).held(), held)
                for field in fields:
                    self.assertEqual(group.state(name).value_of(field), state.value_of(field))

    def test_back(self):
        source = random.Random(132)
        for group in drawn_groups(133):
            state = group.state(source.choice(group.names()))
            replica = Replica("zoe", group.sheet())
            replica.receive(state)
            for field in state.all_values():
                if state.least_level(field) < 3:
                    twin = replica.clone()
                    twin.assign(field, 77, level=source.randint(state.least_level(field), 2))
                    twin.take_back()
                    self.assertEqual(twin.all_values(), state.all_values())

    def test_parts(self):
        for group in drawn_groups(134):
            for name in group.names():
                state = group.state(name)
                for part in state.space().components():
                    inside = [setting for setting in group.known_settings(name) if setting[3] in part]
                    other = State(state.space(), inside)
                    self.assertEqual([setting for setting in other.held() if setting[3] in part],
                                     [setting for setting in state.held() if setting[3] in part])
                    for field in part:
                        self.assertEqual(other.value_of(field), state.value_of(field))

    def test_wishes(self):
        source = random.Random(135)
        counts = {True: 0, False: 0}
        for group in drawn_groups(136, count=40):
            name, level = source.choice(group.names()), source.choice([0, 1, 2])
            state = group.state(name)
            fields = source.sample(list(state.all_values()), source.randint(1, group.sheet().width))
            wishes = [(field, source.choice([state.value_of(field), 1, 0])) for field in fields]
            found = conflict(state, wishes, level=level)
            counts[found is None] += 1
            self.assertIs(can_be_met(state, wishes, level=level), found is None)
            if found is None:
                fulfil_in_group(group, name, wishes, level=level)
                self.assertEqual([group.state(name).value_of(field) for field in fields], [value for _, value in wishes])
                self.assertEqual(group.state(name), group.full_state(name))
            else:
                self.assertIs(is_conflict(state, wishes, found, level=level), True)
                self.assertRaises(Impossible, fulfil_in_group, group, name, wishes, level=level)
                self.assertEqual(group.state(name), state)
        self.assertGreater(min(counts.values()), 8)


if __name__ == "__main__":
    unittest.main()
