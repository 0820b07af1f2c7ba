"""Tests of neverwas.audit: [10.1], guarantee (f) of [0.2] and, as far as it reaches, [0.3]."""

import copy
import random
import unittest
from unittest import mock

from helper import ANY_VALUES, NO_BUDGETS, NO_IDS, Checks, same, some_command, targets_of
from neverwas import audit
from neverwas.audit import first_invalid, recorded, replayed
from neverwas.errors import DuplicateId, InvalidBudget, InvalidCommand, InvalidLog, InvalidRecord, LogError
from neverwas.errors import SealedWrite, UnknownCell, UnknownId
from neverwas.store import Store

W1 = ("write", "w1", (), ("a",), 2)
W2 = ("write", "w2", (), ("a",), 4)
Q1 = ("query", "q1", ("a", "b"))
COMMANDS = [
    ("add", W1), ("add", Q1), ("retract", "w2"), ("add", W2), ("drop", "q1"), ("restore", "w2"), ("commit", "w2"),
    ("add", ("write", "w3", ("b",), ("a", "b"), 3)), ("lower_budget", 2), ("seal", "w3"),
]
TARGETS = [None, ("q1", "a"), ("q1", "b"), ("", "a"), None, ("", "a"), ("", "zzzz"), ("", "b"), None, ("", "a")]
RECORD = [
    (("add", W1), [], None, None),
    (("add", Q1), [], ("q1", "a"), [("q1", "a", "w1")]),
    (("retract", "w2"), [], ("q1", "b"), [("q1", "b", None)]),
    (("add", W2), [], ("", "a"), [("", "a", "w1")]),
    (("drop", "q1"), [], None, None),
    (("restore", "w2"), [], ("", "a"), [("", "a", "w2")]),
    (("commit", "w2"), [], ("", "zzzz"), [("", "zzzz", None)]),
    (("add", ("write", "w3", ("b",), ("a", "b"), 3)), [], ("", "b"), [("", "b", "w3"), ("w3", "b", None)]),
    (("lower_budget", 2), ["w1"], None, None),
    (("seal", "w3"), [], ("", "a"), [("", "a", "w3"), ("w3", "b", None)]),
]
BUDGET = 8
NO_COMMANDS = ANY_VALUES + [
    ["retract", "w1"], ("retract",), ("retract", "w1", "w2"), ("undo", "w1"), (["retract"], "w1"), ("add", None),
    ("add", ("write", "W1", (), ("a",), 2)), ("add", list(W1)), W1, ("apply_all", []),
]


def state(store):
    return (store.log(), store.budget(), store.retracted(), store.retracted_price(), store.notes())


def some_run(chance, length=30):
    """Return (commands, targets, budget) that raise no error."""
    budget = chance.choice([0, 1, 3, 8, 25])
    store = Store(budget)
    commands, targets = [], []
    for number in range(length):
        command = some_command(chance, store, number)
        try:
            store.apply_all([command])
        except LogError:
            continue
        commands.append(command)
        targets.append(chance.choice([None] + targets_of(store.log())))
    return commands, targets, budget


class Examples(unittest.TestCase):
    def test_recorded(self):
        expected = [(("add", W1), [], ("", "a"), [("", "a", "w1")])]
        self.assertTrue(same(expected, recorded([("add", W1)], [("", "a")], budget=3)))

    def test_first_invalid(self):
        record = [(("retract", "w1"), [], None, None), (("retract", "w1"), [], None, None)]
        self.assertEqual("1", repr(first_invalid(record)))

    def test_replayed(self):
        self.assertEqual(["w1"], replayed([(("retract", "w1"), [], None, None)]).retracted())


class Recorded(Checks, unittest.TestCase):
    def test_every_command(self):
        self.assertTrue(same(RECORD, recorded(COMMANDS, TARGETS, budget=BUDGET)))
        self.assertTrue(same(RECORD, recorded(tuple(COMMANDS), tuple(TARGETS), budget=BUDGET)))

    def test_no_commands(self):
        self.assertEqual("[]", repr(recorded([], [])))
        self.assertEqual("[]", repr(recorded((), (), budget=0)))

    def test_as_a_store_answers(self):
        chance = random.Random(81)
        deleted = 0
        for _ in range(80):
            commands, targets, budget = some_run(chance)
            store = Store(budget)
            expected = []
            for command, target in zip(commands, targets):
                gone = store.apply_all([command])
                answer = None if target is None else store.dependencies(target)[1]
                expected.append((command, gone, target, answer))
                deleted += len(gone)
            self.assertTrue(same(expected, recorded(commands, targets, budget=budget)))
        self.assertGreater(deleted, 100)

    def test_answers_that_are_not_exact_are_recorded_too(self):
        record = recorded([("add", W1), ("retract", "w1")], [None, ("", "a")], budget=0)
        self.assertEqual((("retract", "w1"), [], ("", "a"), [("", "a", None)]), record[1])

    def test_the_default_budget(self):
        for price, deleted in ((10, []), (11, ["w1"])):
            commands = [("add", W1), ("add", ("write", "w2", (), ("a",), price))]
            self.assertEqual(deleted, recorded(commands, [None, None])[1][1])
        with self.assertRaises(TypeError):
            recorded([], [], 5)
        self.assertEqual(RECORD, recorded(budget=BUDGET, targets=TARGETS, commands=COMMANDS))

    def test_the_budget_comes_first(self):
        for value in NO_BUDGETS:
            for commands, targets in ((COMMANDS, TARGETS), (None, None), ([None], []), (COMMANDS, [])):
                self.check_error(InvalidBudget, None, None, recorded, commands, targets, budget=value)

    def test_then_any_value_that_is_no_list_of_commands(self):
        for value in ANY_VALUES:
            if not isinstance(value, (list, tuple)):
                for targets in ([], None, [None], [("w1", "a")]):
                    self.check_error(InvalidCommand, "position", 0, recorded, value, targets)

    def test_then_any_value_that_is_no_command(self):
        for value in NO_COMMANDS:
            for count in (0, 1, 2):
                # The commands and targets before it raise errors, too, when they are run.
                commands = [("drop", "w1"), ("restore", "w1")][:count] + [value, ("drop", "w1"), value]
                for targets in ([None] * len(commands), [0] * len(commands), [], None, [None] * 9):
                    self.check_error(InvalidCommand, "position", count, recorded, commands, targets)

    def test_then_any_value_that_is_no_list_of_the_same_length(self):
        wrong = [("drop", "w1")] * 3
        for value in ANY_VALUES + [[None] * 2, [None] * 4, (None,) * 2, [], [("", "a")] * 5, {0: 0, 1: 1, 2: 2}, "abc"]:
            self.check_error(InvalidCommand, "position", 3, recorded, wrong, value)
            if not same(value, []) and not same(value, ()):
                self.check_error(InvalidCommand, "position", 0, recorded, [], value)
        self.check_error(InvalidCommand, "position", 3, recorded, wrong, {None: 1, 1: 1, 2: 2})

    def test_then_row_by_row_the_errors_of_command_and_target(self):
        commands = [("add", W1), ("add", Q1), ("retract", "w1")]
        targets = [("", "a"), None, ("q1", "b")]
        recorded(commands, targets)
        for error, attribute, value, command in (
            (UnknownId, "entry_id", "w9", ("drop", "w9")), (DuplicateId, "entry_id", "q1", ("add", Q1)),
            (UnknownId, "entry_id", None, ("restore", None)), (InvalidBudget, None, None, ("lower_budget", 11)),
            (UnknownId, "entry_id", "", ("retract", "")), (SealedWrite, "entry_id", "s1", ("seal", "s1")),
        ):
            more = commands + [("add", ("write", "s1", (), ("c",), None)), command, ("drop", "w1")]
            for target in (None, ("w1", "a"), 0):
                self.check_error(error, attribute, value, recorded, more, targets + [None, target, 0])
        # The target of an earlier row comes before the command of a later one.
        self.check_error(UnknownId, "entry_id", 0, recorded, commands + [("drop", "w9")], [None, 0, None, None])
        self.check_error(UnknownCell, "cell", "c", recorded, commands, [None, ("q1", "c"), 0])

    def test_any_value_as_a_target(self):
        commands = [("add", W1), ("add", Q1), ("retract", "w1")]
        for value in ANY_VALUES:
            if value is not None:
                self.check_error(UnknownId, "entry_id", value, recorded, commands, [None, value, None])
        for value in NO_IDS + ["w1", "q9"]:
            if value != "":
                self.check_error(UnknownId, "entry_id", value, recorded, commands, [None, (value, "a"), None])
        for value in ANY_VALUES:
            if value not in ("a", "b"):
                self.check_error(UnknownCell, "cell", value, recorded, commands, [None, ("q1", value), None])
        # Only then is the query in the log.
        self.check_error(UnknownId, "entry_id", "q1", recorded, commands, [("q1", "a"), None, None])

    def test_sixty_entries(self):
        commands = [("add", ("query", f"q{number}", ("a",))) for number in range(61)]
        self.assertEqual(60, len(recorded(commands[:60], [None] * 60)))
        self.check_error(InvalidLog, None, None, recorded, commands, [None] * 61)

    def test_each_list_is_new(self):
        self.check_fresh(recorded, COMMANDS, TARGETS, budget=BUDGET)


class Audit(Checks, unittest.TestCase):
    def check(self, expected, record, budget=BUDGET):
        """The first invalid row stands at this position, or there is none."""
        before = copy.deepcopy(record)
        self.assertTrue(same(expected, first_invalid(record, budget=budget)), record)
        if expected is None:
            self.assertIs(Store, type(replayed(record, budget=budget)))
        else:
            self.check_error(InvalidRecord, "position", expected, replayed, record, budget=budget)
        self.assertTrue(same(before, record))

    def with_row(self, position, *changes):
        """Return the record with other items in a row: pairs (place, item)."""
        row = list(RECORD[position])
        for place, item in changes:
            row[place] = item
        return RECORD[:position] + [tuple(row)] + RECORD[position + 1:]

    def test_a_record(self):
        self.check(None, RECORD)
        self.check(None, tuple(RECORD))
        for count in range(len(RECORD)):
            self.check(None, RECORD[:count])
            self.check(0, RECORD[count:] if count in (2, 5) else [None])

    def test_tuples_for_the_two_lists_in_a_row(self):
        rows = [
            (command, tuple(gone), target, None if answer is None else tuple(answer))
            for command, gone, target, answer in RECORD
        ]
        self.check(None, rows)
        self.check(None, RECORD[:3] + rows[3:])

    def test_another_budget(self):
        for budget in (7, 8, 9, 999):
            self.check(None, RECORD, budget)
        self.check(7, RECORD, 6)
        self.check(4, RECORD, 3)
        self.check(4, RECORD, 0)

    def test_any_value_that_is_no_list(self):
        for value in ANY_VALUES + [{0: RECORD[0]}, "record", 5]:
            if not isinstance(value, (list, tuple)):
                self.check(0, value)
        self.check(None, [])
        self.check(None, ())

    def test_any_value_as_a_row(self):
        for value in ANY_VALUES + [list(RECORD[3]), RECORD[3][:3], RECORD[3] + (None,), RECORD[3][1:], (RECORD[3],)]:
            for position in (0, 3, 9):
                self.check(position, RECORD[:position] + [value] + RECORD[position + 1:])
            self.check(10, RECORD + [value])

    def test_any_value_as_a_command(self):
        for value in NO_COMMANDS:
            for position in (0, 4, 9):
                self.check(position, self.with_row(position, (0, value)))

    def test_commands_that_raise_errors(self):
        for position, command in (
            (1, ("add", W1)), (3, ("retract", "w2")), (4, ("drop", "q2")), (4, ("seal", "q1")), (6, ("commit", "w9")),
            (8, ("lower_budget", 5)), (8, ("lower_budget", None)), (9, ("restore", "w3")), (0, ("drop", ["q1"])),
        ):
            self.check(position, self.with_row(position, (0, command)))
        self.check(10, RECORD + [RECORD[9]])

    def test_any_value_as_deleted_ids(self):
        for value in ANY_VALUES + [["w2"], ["w1", "w1"], ["w1", None], [["w1"]], [("w1",)], {"w1": True}, "w1"]:
            if value not in (["w1"], ("w1",)):
                self.check(8, self.with_row(8, (1, value)))
            if not same(value, []) and not same(value, ()):
                self.check(0, self.with_row(0, (1, value)))
                self.check(5, self.with_row(5, (1, value)))

    def test_any_value_as_a_target(self):
        for value in ANY_VALUES + [("q1", "c"), ("w1", "a"), ["q1", "a"], ("q1", "a", "w1")]:
            if value is not None:
                self.check(1, self.with_row(1, (2, value)))
                self.check(0, self.with_row(0, (2, value)))
                self.check(0, self.with_row(0, (2, value), (3, [])))
        # Another target with its own answer is as good.
        self.check(None, self.with_row(1, (2, ("q1", "b")), (3, [("q1", "b", None)])))
        self.check(None, self.with_row(0, (2, ("", "a")), (3, [("", "a", "w1")])))
        self.check(1, self.with_row(1, (2, ("q1", "b"))))

    def test_any_value_as_an_answer(self):
        answer = [("", "b", "w3"), ("w3", "b", None)]
        others = [
            answer[:1], answer[1:], answer[::-1], answer + answer[1:], [list(row) for row in answer], [None] + answer,
            [("", "b", "w3"), ("w3", "b", "")], [("", "b", "w3"), ("w3", "b", False)], {row: 1 for row in answer},
        ]
        for value in ANY_VALUES + others:
            self.check(7, self.with_row(7, (3, value)))
            if value is not None:
                self.check(0, self.with_row(0, (3, value)))
                self.check(8, self.with_row(8, (3, value)))

    def test_no_target_has_no_answer(self):
        self.check(1, self.with_row(1, (2, None)))
        self.check(1, self.with_row(1, (3, None)))
        self.check(None, self.with_row(1, (2, None), (3, None)))
        self.check(0, self.with_row(0, (3, [])))
        self.check(0, self.with_row(0, (3, ())))

    def test_the_first_of_several(self):
        record = self.with_row(4, (1, ["w1"]))
        record[7] = None
        record[2] = record[2][:3] + ([],)
        self.check(2, record)
        self.check(4, RECORD[:3] + record[3:])
        self.check(7, RECORD[:5] + record[5:])

    def test_the_budget_comes_first(self):
        for value in NO_BUDGETS:
            for record in (RECORD, [], None, [None]):
                self.check_error(InvalidBudget, None, None, first_invalid, record, budget=value)
                self.check_error(InvalidBudget, None, None, replayed, record, budget=value)

    def test_the_default_budget(self):
        two = [(("add", W1), [], None, None), (("add", ("write", "w2", (), ("a",), 10)), [], None, None)]
        self.assertIsNone(first_invalid(two))
        self.assertEqual(10, replayed(two).budget())
        two[1] = (("add", ("write", "w2", (), ("a",), 11)), [], None, None)
        self.assertEqual(1, first_invalid(two))
        self.check_error(InvalidRecord, "position", 1, replayed, two)
        for call in (first_invalid, replayed):
            with self.assertRaises(TypeError):
                call(two, 10)
        self.assertIsNone(first_invalid(budget=BUDGET, record=RECORD))
        self.assertEqual(2, replayed(budget=BUDGET, record=RECORD).budget())

    def test_made_up_records(self):
        chance = random.Random(82)
        counts = {True: 0, False: 0}
        for _ in range(150):
            commands, targets, budget = some_run(chance, 20)
            record = recorded(commands, targets, budget=budget)
            self.check(None, record, budget)
            position = chance.randrange(len(record))
            command, gone, target, answer = record[position]
            other = chance.choice([
                (command, gone + ["e0"], target, answer), (command, gone[1:], target, answer),
                (command, gone, target, None), (command, gone, ("", "a"), answer),
                (command, gone[::-1], target, answer),
                (command, gone, target, answer and answer[:-1]), (("retract", "e0"), gone, target, answer),
            ])
            changed = record[:position] + [other] + record[position + 1:]
            self.check(self.defined_first(changed, budget), changed, budget)
            counts[other == record[position]] += 1
        self.assertGreater(min(counts.values()), 10)

    def defined_first(self, record, budget):
        """Return the first row up to which recorded gives another record, by trying all beginnings."""
        for count in range(1, len(record) + 1):
            rows = record[:count]
            try:
                again = recorded([row[0] for row in rows], [row[2] for row in rows], budget=budget)
            except LogError:
                return count - 1
            if again != rows:
                return count - 1
        return None

    def test_the_store_after_all_rows(self):
        chance = random.Random(83)
        for _ in range(80):
            commands, targets, budget = some_run(chance)
            store = Store(budget)
            store.apply_all(commands)
            again = replayed(recorded(commands, targets, budget=budget), budget=budget)
            self.assertEqual(state(store)[:4] + ([],), state(again))

    def test_each_store_is_a_new_one(self):
        one, other = replayed(RECORD, budget=BUDGET), replayed(RECORD, budget=BUDGET)
        self.assertIsNot(one, other)
        one.retract("w9")
        self.assertEqual([], other.retracted())


class FewEntries(unittest.TestCase):
    """Guarantee (f): an auditor keeps no more entries than the store does."""

    def long_record(self, length):
        commands = []
        for number in range(length):
            commands.append(("add", ("write", f"w{number}", ("a",), ("a",), 3 if number % 2 else None)))
            if number % 5 == 4:
                commands.append(("add", ("query", f"q{number}", ("a", "b"))))
                commands.append(("drop", f"q{number}"))
            commands.append(("add", ("write", f"v{number}", (), ("a", "b"), 4)))
        return recorded(commands, [("", "b")] * len(commands), budget=9)

    def test_far_more_entries_than_a_log_may_have(self):
        record = self.long_record(2000)
        self.assertIsNone(first_invalid(record, budget=9))
        self.assertLess(len(replayed(record, budget=9).log()), 8)

    def test_what_the_auditor_keeps_after_each_row(self):
        record = self.long_record(60)
        sizes = []

        class Watched(Store):
            def add(self, entry):
                deleted = Store.add(self, entry)
                sizes.append(len(self.log()))
                return deleted

        store = Store(9)
        expected = []
        for command, _, _, _ in record:
            store.apply_all([command])
            if command[0] == "add":
                expected.append(len(store.log()))
        with mock.patch.object(audit, "Store", Watched):
            self.assertIsNone(first_invalid(record, budget=9))
        self.assertEqual(expected, sizes)
        self.assertLess(max(sizes), 10)

    def test_an_audit_ends_at_the_first_invalid_row(self):
        record = self.long_record(20)
        record[7] = record[7][:1] + (["w0"],) + record[7][2:]
        self.assertEqual(7, first_invalid(record + [None] * 1000, budget=9))


if __name__ == "__main__":
    unittest.main()
