"""The console: point [25] of the document, and the class of the interface."""

import random
import unittest

from histories import drawn_call, drawn_history, new_group
from lastheld.console import Console
from lastheld.errors import (Impossible, InvalidCommand, InvalidWishes, LastheldError, LimitError, MissingError, Refused,
                             RunFailed, StateError, TooMany, UnknownField, UnknownMessage, UnknownReplica)
from lastheld.groups import Group
from lastheld.joining import forecast
from lastheld.rationals import number_text
from lastheld.sheets import Sheet
from lastheld.texts import setting_text
from lastheld.wishes import fulfil_in_group
from values import error_of, no_lists, other_kinds, spoil

SHEET = Sheet(["a", "b", "s"])
OWN_ERRORS = (LastheldError, MissingError, StateError, LimitError)


def console(*commands):
    """A new console with two replicas, after some commands."""
    found = Console(Group(SHEET, ["ann", "bo"]))
    for command in commands:
        found.execute(command)
    return found


def linked(*commands):
    return console("equation ann 1 a 1 b -1 s", *commands)


def facts(group):
    """All that a group tells of itself."""
    return [group.names(), group.message_count, [
        (group.state(name), group.known_settings(name), group.known_equations(name)) for name in group.names()]]


class CommandTest(unittest.TestCase):
    def assert_results(self, found, rows):
        for command, result in rows:
            self.assertEqual(found.execute(command), result, command)

    def test_changing_commands(self):
        self.assert_results(console(), [
            ("equation ann 1 a 1 b -1 s", "s"), ("equation ann 2 a 2 b -2 s", "-"), ("equation ann 0", "-"),
            ("assign ann a 3 0", "a"), ("assign ann s 10 1", "b"), ("assign ann b -1/2 2", "a"),
            ("send ann", "0"), ("send bo", "1"), ("deliver 0 bo", "a b s"), ("deliver 0 bo", "-"), ("deliver 1 ann", "-"),
            ("fulfil bo 2 a 1", "s"), ("fulfil bo 2 s 5 a 4 b 1", "-"), ("fulfil bo 2 a 4", "-"),
            ("values bo", "a=4 b=1 s=5"), ("send ann", "2"),
        ])

    def test_telling_commands(self):
        found = linked("assign ann a 3 0", "assign ann b 1/2 1")
        self.assert_results(found, [
            ("value ann a", "3"), ("value ann b", "1/2"), ("value ann s", "7/2"), ("value bo s", "0"),
            ("values ann", "a=3 b=1/2 s=7/2"), ("values bo", "a=0 b=0 s=0"),
            ("expression ann s", "b=1 a=1"), ("expression ann a", "a=1"), ("base ann", "b a"), ("base bo", "a b s"),
            ("clock ann", "2"), ("clock bo", "0"), ("freedom ann", "2"), ("freedom bo", "3"),
            ("least ann a", "0"), ("least ann b", "1"), ("least ann s", "0"), ("least bo s", "0"),
            ("held ann", "1 2 ann b 1/2; 0 1 ann a 3"), ("held bo", "-"), ("rows ann", "1 a 1 b -1 s"), ("rows bo", "-"),
            ("components ann", "a,b,s"), ("components bo", "a b s"), ("forecast ann bo", "a b s | -"),
            ("forecast bo ann", "- | a b s"), ("forecast ann ann", "a b s | a b s"),
        ])

    def test_empty_results(self):
        found = console("equation ann 1 a", "equation ann 1 b", "equation ann 1 s")
        self.assert_results(found, [
            ("base ann", "-"), ("held ann", "-"), ("expression ann a", "-"), ("freedom ann", "0"), ("least ann a", "3"),
            ("rows ann", "1 a; 1 b; 1 s"), ("components ann", "a b s"),
        ])

    def test_one_side_of_a_forecast_is_empty(self):
        found = Console(Group(Sheet(["a", "b"]), ["ann", "bo"]))
        found.run(["assign ann a 1 0", "assign bo a 2 0", "assign ann b 1 0", "assign bo b 2 1"])
        self.assertEqual([found.execute("forecast ann bo"), found.execute("forecast bo ann")], ["- | a b", "a b | -"])
        both = Console(Group(Sheet(["a", "b"]), ["ann", "bo"]))
        both.run(["equation ann 2 a -1 b", "equation bo 1 a -1 b", "assign ann a 1 0", "assign bo a 2 0"])
        self.assertEqual(both.execute("forecast ann bo"), "- | -")

    def test_components_and_rows(self):
        found = Console(Group(Sheet(["a", "x", "b", "y", "z"]), ["ann"]))
        found.run(["equation ann 1 a -2 b", "equation ann 3 x 1 y"])
        self.assertEqual([found.execute("components ann"), found.execute("rows ann")],
                         ["a,b x,y z", "1 a -2 b; 3 x 1 y"])
        self.assertEqual(found.execute("expression ann a"), "a=1")
        self.assertEqual([found.execute("base ann"), found.execute("expression ann b"), found.execute("expression ann y")],
                         ["a x z", "a=1/2", "x=-3"])

    def test_long_numbers(self):
        long = "9" * 60
        self.assertEqual(linked(f"assign ann a {long} 0", f"assign ann b -1/{long} 0").execute("values ann"),
                         f"a={long} b=-1/{long} s={int(long) ** 2 - 1}/{long}")

    def test_drawn_commands(self):
        source = random.Random(110)
        for _ in range(25):
            group = new_group(source)
            found = Console(group)
            for _ in range(30):
                call = drawn_call(source, group)
                self.assertEqual(result_of(lambda: found.execute(command_of(group, call))),
                                 result_of(lambda: shown(called(group, call))))
            self.assertEqual(facts(found.group()), facts(group))
            self.assert_told(found, group)

    def assert_told(self, found, group):
        """Each telling command, against the words of point [25]."""
        for name in group.names():
            state = group.state(name)
            rows = [(f"base {name}", " ".join(state.base())), (f"clock {name}", str(state.clock)),
                    (f"freedom {name}", str(state.freedom)), (f"values {name}", pairs(state.all_values())),
                    (f"held {name}", "; ".join([setting_text(group.sheet(), own) for own in state.held()])),
                    (f"rows {name}", "; ".join([group.sheet().equation_text(row) for row in state.space().rows()])),
                    (f"components {name}", " ".join([",".join(part) for part in state.space().components()]))]
            for field in group.sheet().fields():
                rows += [(f"value {name} {field}", number_text(state.value_of(field))),
                         (f"expression {name} {field}", pairs(state.expression(field))),
                         (f"least {name} {field}", str(state.least_level(field)))]
            for other in group.names():
                _, one, two = forecast(state, group.state(other))
                rows.append((f"forecast {name} {other}", f"{' '.join(one) or '-'} | {' '.join(two) or '-'}"))
            for command, result in rows:
                self.assertEqual(found.execute(command), result or "-", command)


def pairs(numbers):
    return " ".join([f"{field}={number_text(numbers[field])}" for field in numbers])


def command_of(group, call):
    """The command for a call of a group."""
    word, first, *others = call
    if word == "assign":
        return f"assign {first} {others[0]} {number_text(others[1])} {others[2]}"
    if word == "add_equation":
        return f"equation {first} {group.sheet().equation_text(others[0])}"
    return " ".join([word, str(first), *others])


def called(group, call):
    word, first, *others = call
    if word == "assign":
        return group.assign(first, others[0], others[1], level=others[2])
    if word == "deliver":
        return group.deliver(first, to=others[0])
    return getattr(group, word)(first, *others)


def shown(result):
    """A result as the console writes it."""
    if result is None or result == []:
        return "-"
    return " ".join(result) if isinstance(result, list) else str(result)


def result_of(call):
    """The result of a call, or the kind and the fields of its error."""
    try:
        return call()
    except OWN_ERRORS as error:
        return (error.__class__, vars(error))


class InvalidCommandTest(unittest.TestCase):
    def setUp(self):
        self.console = linked("assign ann a 3 2", "send ann")
        self.before = [facts(self.console.group()), self.console.log()]

    def tearDown(self):
        self.assertEqual([facts(self.console.group()), self.console.log()], self.before)

    def assert_invalid(self, value):
        self.assertEqual(error_of(InvalidCommand, self.console.execute, value).command, value)
        self.assertEqual(error_of(InvalidCommand, self.console.execute, command=value).command, value)

    def test_values_that_are_no_strings(self):
        for value in [*other_kinds(), 0, 1, (), ("send", "ann"), ["send ann"], b"send ann"]:
            self.assert_invalid(value)

    def test_other_words(self):
        for value in ["", " ", "x", "Send ann", "SEND ann", "sends ann", "sen ann", "ann send", "state ann", "names", "log",
                      "take ann", "run", "add_equation ann 1 a", "message ann", "known ann", "sheet", "- ann", "\n"]:
            self.assert_invalid(value)

    def test_numbers_of_words(self):
        for value in ["assign", "assign ann", "assign ann a", "assign ann a 3", "assign ann a 3 0 0", "assign ann a 3 0 x",
                      "equation", "equation ann", "send", "send ann bo", "deliver", "deliver 0", "deliver 0 ann bo",
                      "fulfil", "fulfil ann", "fulfil ann 0", "fulfil ann 0 a", "fulfil ann 0 a 1 b", "value", "value ann",
                      "value ann a b", "values", "values ann a", "expression ann", "expression ann a b", "base",
                      "base ann bo", "clock", "clock ann 1", "freedom", "freedom ann a", "least ann", "least ann a 0", "held",
                      "held ann a", "rows", "rows ann a", "components", "components ann a", "forecast", "forecast ann",
                      "forecast ann bo ann"]:
            self.assert_invalid(value)

    def test_spaces_and_line_feeds(self):
        for value in ["send  ann", " send ann", "send ann ", "assign ann  a 3 0", "equation ann  1 a", "equation ann 1  a",
                      "fulfil ann 0 a 1 ", "fulfil ann 0  a 1", "send ann\n", "\nsend ann", "send\nann", "send an\nn",
                      "value ann\na", "equation ann 1\na", "values ann\n\n", "send ", "value ann ", "value  a", "assign  a 3 0",
                      "fulfil ann 0  1", "deliver 0 ", "forecast ann ", "forecast  bo", "fulfil  0 a 1", "equation  1 a"]:
            self.assert_invalid(value)

    def test_the_form_of_values(self):
        for word in ["x", "03", "-0", "+3", "3/1", "2/4", "0/2", "1/0", "1/-2", "1/02", "/2", "1/", "3.0", "--3", "1_0", "a=3"]:
            self.assert_invalid(f"assign ann a {word} 2")
            self.assert_invalid(f"assign x y {word} 2")
            self.assert_invalid(f"fulfil ann 0 a {word}")
            self.assert_invalid(f"fulfil ann 0 b 1 a {word}")
            self.assert_invalid(f"fulfil x 0 y 1 y {word}")

    def test_the_form_of_levels(self):
        for word in ["3", "-1", "00", "01", "-0", "+1", "1/1", "1/2", "x", "10", "None", "True"]:
            self.assert_invalid(f"assign ann a 1 {word}")
            self.assert_invalid(f"assign x y 1 {word}")
            self.assert_invalid(f"fulfil ann {word} a 1")
            self.assert_invalid(f"fulfil x {word} a 1")

    def test_the_form_of_numbers(self):
        for word in ["x", "00", "01", "-1", "-0", "+1", "1/1", "1/2", "a"]:
            self.assert_invalid(f"deliver {word} ann")
            self.assert_invalid(f"deliver {word} x")

    def test_equations_that_are_not_of_the_sheet(self):
        for text in ["1", "a", "1 x", "1 a 1 x", "1 b 1 a", "1 a 1 a", "0 a", "0 a 1 b", "01 a", "-0 a", "1/2 a", "+1 a", "1 a 1",
                     "0 0", "0 a 0 b 0 s", "1 a b", "1 A", "-", "1a"]:
            self.assert_invalid(f"equation ann {text}")
            self.assert_invalid(f"equation x {text}")


class GroupErrorTest(unittest.TestCase):
    def setUp(self):
        self.console = linked("assign ann a 3 2", "send ann")
        self.before = [facts(self.console.group()), self.console.log()]

    def tearDown(self):
        self.assertEqual([facts(self.console.group()), self.console.log()], self.before)

    def test_unknown_replicas(self):
        for name in ["x", "Ann", "|", "-", "1", "ann;", "a=3", "abcdefghijkl"]:
            for command in [f"assign {name} x 1 0", f"equation {name} 1 a", f"send {name}", f"deliver 0 {name}",
                            f"fulfil {name} 0 x 1", f"value {name} x", f"values {name}", f"expression {name} x",
                            f"base {name}", f"clock {name}", f"freedom {name}", f"least {name} x", f"held {name}",
                            f"rows {name}", f"components {name}", f"forecast {name} y", f"forecast ann {name}"]:
                self.assertEqual(error_of(UnknownReplica, self.console.execute, command).value, name, command)

    def test_unknown_fields(self):
        for field in ["x", "A", "|", "1", "ann", "a=3", "abcdefghijkl"]:
            for command in [f"assign ann {field} 1 0", f"value ann {field}", f"expression ann {field}", f"least ann {field}"]:
                self.assertEqual(error_of(UnknownField, self.console.execute, command).value, field, command)
            self.assertEqual(error_of(InvalidWishes, self.console.execute, f"fulfil ann 0 b 1 {field} 1").index, 1)

    def test_unknown_messages(self):
        for number in ["1", "60", "9" * 50]:
            for name in ["ann", "x"]:
                error = error_of(UnknownMessage, self.console.execute, f"deliver {number} {name}")
                self.assertEqual(error.value, int(number))

    def test_wishes(self):
        self.assertEqual(error_of(InvalidWishes, self.console.execute, "fulfil ann 0 a 1 b 1 a 1").index, 2)
        error = error_of(Impossible, self.console.execute, "fulfil ann 1 a 4")
        self.assertEqual(error.conflict, ({"a": 1}, {"a": 1}))

    def test_refused(self):
        error = error_of(Refused, self.console.execute, "assign ann a 1 1")
        self.assertEqual([error.field, error.level, error.cause], ["a", 1, {"a": 1}])

    def test_too_many_messages(self):
        found = console(*["send ann"] * 60)
        error = error_of(TooMany, found.execute, "send bo")
        self.assertEqual([error.kind, error.limit, len(found.log())], ["messages", 60, 60])


class RunTest(unittest.TestCase):
    def test_results(self):
        found = console()
        commands = ["equation ann 1 a 1 b -1 s", "assign ann a 3 0", "assign ann b 1/2 1", "values ann"]
        self.assertEqual(found.run(commands), ["s", "a", "b", "a=3 b=1/2 s=7/2"])
        self.assertEqual(found.run(tuple(["held ann"])), ["1 2 ann b 1/2; 0 1 ann a 3"])
        self.assertEqual(found.run(commands=[]), [])
        self.assertEqual(found.log(), [("run", 4, 4), ("run", 1, 1), ("run", 0, 0)])

    def test_a_failed_run(self):
        found = linked("assign ann a 3 2", "send ann")
        before, log = facts(found.group()), found.log()
        rows = [
            (["assign ann b 4 0", "send bo", "assign ann a 1 1", "send ann"], 2, ["b", "1"], Refused),
            (["fulfil ann 0 s 5", "deliver 0 bo", "deliver 1 ann"], 2, ["b", "a s"], UnknownMessage),
            (["equation bo 1 a", "assign bo b 1 0", "send x"], 2, ["a", "b"], UnknownReplica),
            (["value ann x"], 0, [], UnknownField), (["values ann", ""], 1, ["a=3 b=0 s=3"], InvalidCommand),
            ([None, "send ann"], 0, [], InvalidCommand), (["send ann", ["send ann"]], 1, ["1"], InvalidCommand),
            (["assign ann b 1 0", "fulfil ann 0 a 4"], 1, ["b"], Impossible),
            (["assign ann b 1 0", "fulfil ann 0 a 4 a 3"], 1, ["b"], InvalidWishes),
            (["send ann"] * 60, 59, [str(number) for number in range(1, 60)], TooMany),
        ]
        for commands, position, results, wanted in rows:
            for given in [commands, tuple(commands)]:
                error = error_of(RunFailed, found.run, given)
                self.assertEqual([error.position, error.results], [position, results])
                self.assertIs(error.__cause__.__class__, wanted)
                self.assertEqual(facts(found.group()), before)
                log.append(("run", len(commands), position))
                self.assertEqual(found.log(), log)

    def test_the_error_that_it_is_raised_from(self):
        found = linked("assign ann a 3 2")
        error = error_of(RunFailed, found.run, ["send ann", "assign ann a 1 1"]).__cause__
        self.assertEqual([error.field, error.level, error.cause], ["a", 1, {"a": 1}])
        error = error_of(RunFailed, found.run, ["send  ann"]).__cause__
        self.assertEqual(error.command, "send  ann")

    def test_values_that_are_no_lists(self):
        found = console()
        for value in [*no_lists(), "send ann", {"send ann"}, {"send ann": 1}]:
            self.assertEqual(error_of(InvalidCommand, found.run, value).command, value)
        self.assertEqual(found.log(), [])

    def test_drawn_runs(self):
        source = random.Random(111)
        for _ in range(15):
            group = drawn_history(source, calls=10)[0].group
            one, other = Console(group), Console(group)
            for _ in range(6):
                commands, twin = [], other.group()
                for _ in range(source.randint(0, 5)):
                    call = drawn_call(source, twin)
                    commands.append(command_of(twin, call))
                    result_of(lambda: called(twin, call))
                found = result_of(lambda: one.run(commands))
                if isinstance(found, list):
                    self.assertEqual([other.execute(command) for command in commands], found)
                self.assertEqual(facts(one.group()), facts(other.group()))

    def test_lists_belong_to_the_caller(self):
        found = console()
        commands = ["send ann", "send bo"]
        results = found.run(commands)
        self.assertEqual(commands, ["send ann", "send bo"])
        spoil(results)
        spoil(commands)
        spoil(found.log())
        spoil(error_of(RunFailed, found.run, ["send ann", "send x"]).results)
        self.assertEqual(found.log(), [("run", 2, 2), ("run", 2, 1)])
        self.assertEqual(found.execute("send ann"), "2")


class LogAndGroupTest(unittest.TestCase):
    def test_the_log(self):
        found = console()
        self.assertEqual(found.log(), [])
        found.execute("send ann")
        error_of(UnknownReplica, found.execute, "send x")
        error_of(InvalidCommand, found.execute, "send")
        error_of(InvalidCommand, found.execute, None)
        found.execute(command="values bo")
        found.run(["send ann"])
        error_of(RunFailed, found.run, ["send bo", "send bo", "send x", "send ann"])
        error_of(InvalidCommand, found.run, "send ann")
        found.execute("send bo")
        self.assertEqual(found.log(), [("alone", "send ann"), ("alone", "values bo"), ("run", 1, 1), ("run", 4, 2),
                                       ("alone", "send bo")])

    def test_the_group_that_was_passed_stays(self):
        group = Group(SHEET, ["ann", "bo"])
        group.assign("ann", "a", 1)
        group.send("ann")
        before = facts(group)
        found = Console(group=group)
        found.run(["assign ann a 2 0", "deliver 0 bo", "send bo", "equation bo 1 b"])
        self.assertEqual(facts(group), before)
        group.assign("bo", "s", 9)
        group.send("bo")
        self.assertEqual(found.execute("values bo"), "a=1 b=0 s=0")
        self.assertEqual(found.execute("send bo"), "2")

    def test_copies_of_the_group(self):
        found = linked("assign ann a 3 0", "send ann")
        one = found.group()
        self.assertEqual([one, one.message_count], [found.group(), 1])
        one.assign("ann", "a", 9)
        fulfil_in_group(one, "bo", [("s", 4)])
        one.send("bo")
        self.assertEqual([found.execute("values ann"), found.execute("values bo"), found.execute("send bo")],
                         ["a=3 b=0 s=3", "a=0 b=0 s=0", "1"])

    def test_two_consoles_share_nothing(self):
        group = Group(SHEET, ["ann"])
        one, other = Console(group), Console(group)
        one.execute("assign ann a 5 0")
        self.assertEqual([other.execute("value ann a"), other.log()], ["0", [("alone", "value ann a")]])


if __name__ == "__main__":
    unittest.main()
