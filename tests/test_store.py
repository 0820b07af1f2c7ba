"""Tests of neverwas.store: [6.1], what [0.2] guarantees of it and, as far as it reaches, [0.3]."""

import copy
import random
import unittest

from helper import ANY_VALUES, NO_BUDGETS, NO_IDS, Checks, defined_compacted, defined_triples, prices_of, same
from helper import some_command, some_log, targets_of
from neverwas.compaction import compacted
from neverwas.errors import DuplicateId, InvalidBudget, InvalidCommand, InvalidLog, LogError, NotCompact
from neverwas.errors import SealedWrite, UnknownCell, UnknownId
from neverwas.logs import is_entry
from neverwas.store import Store, store_of

W1 = ("write", "w1", (), ("a",), 2)
W2 = ("write", "w2", (), ("a",), 4)
S1 = ("write", "s1", ("a",), ("c",), None)
Q1 = ("query", "q1", ("a", "b"))
NO_ENTRIES = ANY_VALUES + [
    list(W1), W1[:4], W1 + (1,), ("write", "W1", (), ("a",), 2), ("write", "w1", (), (), 2), (W1,),
    ("write", "w1", ("b", "a"), ("a",), 2), ("write", "w1", (), ("a",), 100), ("write", "w1", (), ("a",), True),
    ("write", "w1", [], ("a",), 2), ("query", "q1", ()), ("query", "q1", "a"), ("query", "", ("a",)), ["query"],
]
NO_COMMANDS = ANY_VALUES + [
    ["retract", "w1"], ("retract",), ("retract", "w1", "w2"), ("undo", "w1"), ("Add", W1), ("", "w1"), (None, "w1"),
    (("retract",), "w1"), (["retract"], "w1"), ({}, "w1"), (True, 1), ("retracted", "w1"), ("log", "w1"),
    ("add",), ("add", W1, W2), ("apply_all", []), ("notes", None), ("dependencies", ("", "a")), W1, Q1,
] + [("add", value) for value in NO_ENTRIES]


def state(store):
    """Return all that can be seen of a store but its notes."""
    return (store.log(), store.budget(), store.retracted(), store.retracted_price())


def filled(*entries, budget=10, retracted=()):
    """Return a store with these entries and these retracted ids."""
    store = Store(budget)
    for entry in entries:
        store.add(entry)
    for entry_id in retracted:
        store.retract(entry_id)
    return store


def calls_of(store):
    """Return the commands by their names."""
    return {
        "add": store.add, "retract": store.retract, "restore": store.restore, "seal": store.seal,
        "drop": store.drop, "commit": store.commit, "lower_budget": store.lower_budget,
    }


def run(store, command):
    return calls_of(store)[command[0]](command[1])


class Complete:
    """A store by the words of [6.1] that deletes nothing: it compacts all that was ever added each time anew."""

    def __init__(self, budget):
        self.full = ()
        self.budget = budget
        self.retracted = []

    def kept(self):
        return defined_compacted(self.full, self.budget)

    def error_of(self, name, value):
        """Return the class and the attribute of the first error that applies to the command, or None."""
        kept = {entry[1]: entry for entry in self.kept()}
        if name == "add":
            if not is_entry(value):
                return (InvalidCommand, 0)
            retracted = value[1] in self.retracted
            checks = [
                (value[1] in kept, DuplicateId), (retracted and value[0] == "write" and value[4] is None, SealedWrite),
                (retracted and value[0] == "query", UnknownId), (len(kept) >= 60, InvalidLog),
            ]
            return next(((error, value[1]) for applies, error in checks if applies), None)
        if name == "lower_budget":
            return (InvalidBudget, None) if not 0 <= value <= self.budget else None
        entry = kept.get(value, ("none",))
        sealed = entry[0] == "write" and entry[4] is None
        retracted = value in self.retracted
        no_id = value in ("", "a b")
        checks = {
            "retract": [(no_id or entry[0] == "query", UnknownId), (sealed, SealedWrite), (retracted, DuplicateId)],
            "restore": [(not retracted, UnknownId)],
            "seal": [(entry[0] != "write", UnknownId), (sealed, SealedWrite), (retracted, DuplicateId)],
            "drop": [(entry[0] != "query", UnknownId)],
            "commit": [
                (entry[0] != "write", UnknownId), (sealed, SealedWrite),
                (entry[0] == "write" and not sealed and entry[4] > self.budget, InvalidBudget),
            ],
        }[name]
        return next(((error, value) for applies, error in checks if applies), None)

    def run(self, name, value):
        """Run a command that raises no error, and return the ids that compaction deletes."""
        before = [entry[1] for entry in self.kept()]
        if name == "add":
            self.full += (value,)
            before.append(value[1])
        if name == "retract":
            self.retracted = sorted(self.retracted + [value])
        if name == "restore" or name == "commit" and value in self.retracted:
            self.retracted.remove(value)
        if name == "seal":
            self.full = tuple(entry[:4] + (None,) if entry[1] == value else entry for entry in self.full)
        if name == "commit":
            self.budget -= prices_of(self.full)[value]
        if name == "lower_budget":
            self.budget = value
        if name in ("drop", "commit"):
            self.full = tuple(entry for entry in self.full if entry[1] != value)
            before.remove(value)
        after = [entry[1] for entry in self.kept()]
        return [entry_id for entry_id in before if entry_id not in after]

    def price(self):
        return sum(price for entry_id, price in prices_of(self.kept()).items() if entry_id in self.retracted)


class Examples(Checks, unittest.TestCase):
    def test_add(self):
        store = Store(3)
        self.assertEqual(([], ["w1"]), (store.add(W1), store.add(W2)))

    def test_retract(self):
        store = Store(3)
        self.assertEqual([], store.retract("w1"))
        self.check_error(DuplicateId, "entry_id", "w1", store.retract, "w1")

    def test_lower_budget(self):
        store = filled(W1, W2, budget=9)
        self.assertEqual((["w1"], (W2,), 3), (store.lower_budget(3), store.log(), store.budget()))

    def test_apply_all(self):
        self.check_error(InvalidCommand, "position", 1, Store(3).apply_all, [("retract", "w1"), ("undo", "w1")])

    def test_retracted_price(self):
        store = Store(3)
        self.assertEqual([], store.apply_all([("add", W1), ("retract", "w2"), ("retract", "w1")]))
        self.assertEqual((["w1", "w2"], 2), (store.retracted(), store.retracted_price()))

    def test_dependencies(self):
        store = Store(1)
        store.apply_all([("add", W1), ("retract", "w1")])
        self.assertTrue(same((False, [("", "a", None)]), store.dependencies(("", "a"))))

    def test_notes(self):
        store = Store(3)
        self.assertEqual([], store.apply_all([("retract", "w1"), ("retract", "w2")]))
        self.assertTrue(same([("begin", 2), ("end", True)], store.notes()))

    def test_store_of(self):
        self.check_error(NotCompact, None, None, store_of, (W1, W2), budget=3)


class Creation(Checks, unittest.TestCase):
    def test_an_empty_log(self):
        for budget in (0, 1, 10, 998, 999):
            for store in (Store(budget), Store(budget=budget)):
                self.assertTrue(same(((), budget, [], 0), state(store)))
                self.assertEqual([], store.notes())

    def test_the_default_budget(self):
        self.assertEqual("10", repr(Store().budget()))

    def test_any_value_that_is_not_a_budget(self):
        for value in NO_BUDGETS:
            self.check_error(InvalidBudget, None, None, Store, value)

    def test_stores_are_compared_by_identity(self):
        one, other = Store(3), Store(3)
        self.assertFalse(one == other)
        self.assertTrue(one != other)
        self.assertTrue(one == one)
        self.assertEqual(2, len({one: 1, other: 2}))


class AgainstTheCompleteLog(unittest.TestCase):
    """The store keeps the compaction of all that was ever added, with the seals, drops and commits."""

    def run_long(self, seed, length, budget):
        chance = random.Random(seed)
        store, complete = Store(budget), Complete(budget)
        counts = {}
        for number in range(length):
            name, value = some_command(chance, store, number)
            error = complete.error_of(name, value)
            before = copy.deepcopy(state(store))
            if error is None:
                deleted = run(store, (name, value))
                self.assertTrue(same(complete.run(name, value), deleted), (name, value))
                counts[name] = counts.get(name, 0) + 1
                counts["deleted"] = counts.get("deleted", 0) + len(deleted)
            else:
                with self.assertRaises(LogError) as caught:
                    run(store, (name, value))
                self.assertIs(error[0], type(caught.exception), (name, value))
                attributes = [] if error[0] in (InvalidBudget, InvalidLog) else [error[1]]
                self.assertTrue(same(attributes, list(vars(caught.exception).values())), (name, value))
                self.assertTrue(same(before, state(store)))
                counts["error"] = counts.get("error", 0) + 1
            expected = (complete.kept(), complete.budget, complete.retracted, complete.price())
            self.assertTrue(same(expected, state(store)), (name, value))
            self.check_answers(chance, store, complete)
        return counts

    def check_answers(self, chance, store, complete):
        for target in chance.sample(targets_of(store.log()), 2):
            exact, triples = store.dependencies(target)
            self.assertIs(complete.price() <= complete.budget, exact)
            self.assertEqual(defined_triples(complete.kept(), target, complete.retracted)[0], triples)
            if exact:
                self.assertEqual(defined_triples(complete.full, target, complete.retracted)[0], triples)

    def test_after_every_command_of_long_runs(self):
        counts = {}
        for seed, budget in enumerate([0, 1, 2, 3, 5, 8, 8, 12, 20, 20, 30, 40]):
            for name, count in self.run_long(seed, 90, budget).items():
                counts[name] = counts.get(name, 0) + count
        self.assertEqual(9, len(counts))
        for name, count in counts.items():
            self.assertGreater(count, 9, name)

    def test_a_run_of_a_thousand_entries(self):
        store = Store(3)
        for number in range(1000):
            cells = ("a", "b", "c")[number % 3:number % 3 + 1]
            deleted = store.add(("write", f"w{number}", (), cells, 1))
            self.assertEqual([] if number < 12 else [f"w{number - 12}"], deleted)
        self.assertEqual([f"w{number}" for number in range(988, 1000)], [entry[1] for entry in store.log()])

    def test_one_command_deletes_several_in_log_order(self):
        store = filled(*[("write", f"w{number}", (), ("a",), 1) for number in range(9)], budget=8)
        self.assertEqual(["w0", "w1", "w2"], store.lower_budget(5))
        self.assertEqual(["w3", "w4", "w5", "w6"], store.seal("w7"))
        store = filled(W1, ("write", "w3", (), ("b",), 1), Q1, W2, ("write", "w4", (), ("b",), 9), budget=3)
        self.assertEqual(["w1", "w3"], store.drop("q1"))
        store = filled(W1, ("write", "w2", (), ("a",), 3), ("write", "w3", ("b",), ("b",), 5), budget=7)
        self.assertEqual(["w1"], store.commit("w3"))
        self.assertEqual(((("write", "w2", (), ("a",), 3),), 2, [], 0), state(store))

    def test_what_the_command_removes_is_not_in_the_list(self):
        store = filled(W1, Q1)
        self.assertEqual([], store.drop("q1"))
        self.assertEqual([], store.commit("w1"))
        self.assertEqual(((), 8, [], 0), state(store))

    def test_budgets_0_and_999(self):
        store = filled(W1, W2, budget=0)
        self.assertEqual((W2,), store.log())
        self.check_budget_of_a_commit(store)
        log = tuple(("write", f"w{number}", (), ("a",), 99) for number in range(11))
        store = filled(*log, budget=999)
        self.assertEqual(log, store.log())
        self.assertEqual(["w0"], store.add(("write", "w11", (), ("a",), 10)))
        self.assertEqual(log[1:] + (("write", "w11", (), ("a",), 10),), store.log())

    def check_budget_of_a_commit(self, store):
        with self.assertRaises(InvalidBudget):
            store.commit("w2")


class Errors(Checks, unittest.TestCase):
    def check_command(self, error, attribute, value, store, name, argument):
        """The command raises this error and changes nothing, alone and in apply_all."""
        before = copy.deepcopy((state(store), store.notes()))
        self.check_error(error, attribute, value, calls_of(store)[name], argument)
        self.assertTrue(same(before, (state(store), store.notes())))
        if error is not InvalidCommand:
            self.check_error(error, attribute, value, store.apply_all, [("retract", "new"), (name, argument)])
            self.assertTrue(same(before[0], state(store)))

    def store(self):
        return filled(W1, Q1, S1, W2, budget=10, retracted=["w2", "gone"])

    def test_add_of_any_value_that_is_no_entry(self):
        full = filled(*[("query", f"q{number}", ("a",)) for number in range(60)])
        for value in NO_ENTRIES:
            self.check_command(InvalidCommand, "position", 0, self.store(), "add", value)
            self.check_command(InvalidCommand, "position", 0, full, "add", value)

    def test_add_of_a_kept_id(self):
        for entry in (W1, Q1, S1, W2, ("query", "w1", ("a",)), ("write", "q1", (), ("a",), None)):
            self.check_command(DuplicateId, "entry_id", entry[1], self.store(), "add", entry)
        # A retracted write that is kept: the duplicate comes before the seal and the query.
        for entry in (("write", "w2", (), ("a",), None), ("query", "w2", ("a",))):
            self.check_command(DuplicateId, "entry_id", "w2", self.store(), "add", entry)

    def test_add_of_a_retracted_id(self):
        sealed, query = ("write", "gone", (), ("a",), None), ("query", "gone", ("a",))
        self.check_command(SealedWrite, "entry_id", "gone", self.store(), "add", sealed)
        self.check_command(UnknownId, "entry_id", "gone", self.store(), "add", query)
        store = self.store()
        self.assertEqual([], store.add(("write", "gone", (), ("a",), 5)))
        self.assertEqual((["gone", "w2"], 9), (store.retracted(), store.retracted_price()))

    def test_add_to_sixty_entries(self):
        log = tuple(("query", f"q{number}", ("a",)) for number in range(59))
        store = filled(*log, retracted=["gone"])
        self.assertEqual([], store.add(W1))
        self.assertEqual(log + (W1,), store.log())
        for entry in (W2, ("query", "q60", ("a",)), ("write", "gone", (), ("a",), 1)):
            self.check_command(InvalidLog, None, None, store, "add", entry)
        self.check_command(DuplicateId, "entry_id", "q7", store, "add", ("query", "q7", ("a",)))
        self.check_command(SealedWrite, "entry_id", "gone", store, "add", ("write", "gone", (), ("a",), None))
        self.check_command(UnknownId, "entry_id", "gone", store, "add", ("query", "gone", ("a",)))
        store.drop("q0")
        self.assertEqual([], store.add(W2))

    def test_sixty_entries_although_compaction_would_delete_one(self):
        store = filled(*[("write", f"w{number}", (), ("a",), 1) for number in range(60)], budget=59)
        self.assertEqual(60, len(store.log()))
        self.check_command(InvalidLog, None, None, store, "add", ("write", "w60", (), ("a",), 1))
        self.assertEqual(["w0"], store.lower_budget(58))
        self.assertEqual(["w1"], store.add(("write", "w60", (), ("a",), 1)))

    def test_retract(self):
        for value in NO_IDS + ["q1"]:
            self.check_command(UnknownId, "entry_id", value, self.store(), "retract", value)
        self.check_command(SealedWrite, "entry_id", "s1", self.store(), "retract", "s1")
        for value in ("w2", "gone"):
            self.check_command(DuplicateId, "entry_id", value, self.store(), "retract", value)

    def test_restore(self):
        for value in NO_IDS + ["q1", "s1", "w1", "w9", "W2"]:
            self.check_command(UnknownId, "entry_id", value, self.store(), "restore", value)
        for value in ANY_VALUES:
            self.check_command(UnknownId, "entry_id", value, Store(), "restore", value)

    def test_seal(self):
        for value in NO_IDS + ["q1", "w9", "gone"]:
            self.check_command(UnknownId, "entry_id", value, self.store(), "seal", value)
        self.check_command(SealedWrite, "entry_id", "s1", self.store(), "seal", "s1")
        self.check_command(DuplicateId, "entry_id", "w2", self.store(), "seal", "w2")

    def test_drop(self):
        for value in NO_IDS + ["w1", "s1", "w2", "gone", "q9"]:
            self.check_command(UnknownId, "entry_id", value, self.store(), "drop", value)

    def test_commit(self):
        for value in NO_IDS + ["q1", "w9", "gone"]:
            self.check_command(UnknownId, "entry_id", value, self.store(), "commit", value)
        self.check_command(SealedWrite, "entry_id", "s1", self.store(), "commit", "s1")
        self.check_command(InvalidBudget, None, None, filled(W1, budget=1), "commit", "w1")
        self.check_command(InvalidBudget, None, None, filled(W1, budget=1, retracted=["w1"]), "commit", "w1")
        self.check_command(SealedWrite, "entry_id", "s1", filled(S1, budget=0), "commit", "s1")

    def test_lower_budget(self):
        for value in NO_BUDGETS + [11, 999]:
            self.check_command(InvalidBudget, None, None, self.store(), "lower_budget", value)

    def test_deleted_writes_are_unknown(self):
        store = filled(W1, W2, budget=3)
        for name in ("restore", "seal", "drop", "commit"):
            self.check_command(UnknownId, "entry_id", "w1", store, name, "w1")

    def test_the_documented_names(self):
        store = Store(9)
        store.add(entry=W1)
        store.retract(entry_id="w1")
        store.restore(entry_id="w1")
        store.add(entry=Q1)
        store.drop(entry_id="q1")
        store.seal(entry_id="w1")
        store.add(entry=W2)
        store.commit(entry_id="w2")
        store.lower_budget(budget=4)
        store.apply_all(commands=[])
        self.assertEqual((True, [("", "a", "w1")]), store.dependencies(target=("", "a")))
        self.assertEqual((4, (W1[:4] + (None,),)), (store.budget(), store_of(log=store.log(), budget=4).log()))


class Commands(Checks, unittest.TestCase):
    def test_retract_and_restore_return_an_empty_list(self):
        store = filled(W1, Q1, W2)
        for name in ("w1", "w2", "gone", "later"):
            self.assertEqual("[]", repr(store.retract(name)))
        self.assertEqual((["gone", "later", "w1", "w2"], 6), (store.retracted(), store.retracted_price()))
        self.assertEqual("[]", repr(store.restore("w1")))
        self.assertEqual("[]", repr(store.restore("gone")))
        self.assertEqual(((W1, Q1, W2), 10, ["later", "w2"], 4), state(store))

    def test_the_retracted_ids_ascend(self):
        store = Store()
        names = ["b", "a1", "9", "ab", "aa", "zz", "0", "a"]
        for name in names:
            store.retract(name)
        self.assertEqual(sorted(names), store.retracted())

    def test_a_write_that_is_added_later(self):
        store = filled(retracted=["w1"])
        self.assertEqual(0, store.retracted_price())
        store.add(W1)
        self.assertEqual(2, store.retracted_price())
        self.assertEqual((True, [("", "a", None)]), store.dependencies(("", "a")))
        store.restore("w1")
        self.assertEqual((True, [("", "a", "w1")]), store.dependencies(("", "a")))

    def test_a_deleted_write(self):
        store = filled(W1, W2, budget=3)
        store.retract("w1")
        self.assertEqual((["w1"], 0), (store.retracted(), store.retracted_price()))
        self.assertEqual((True, [("", "a", "w2")]), store.dependencies(("", "a")))
        store.restore("w1")
        self.assertEqual([], store.retracted())

    def test_a_retracted_write_that_is_deleted_costs_nothing_any_more(self):
        store = filled(W1, ("write", "w2", (), ("a",), 3), budget=3, retracted=["w1", "w2"])
        self.assertEqual((5, False), (store.retracted_price(), store.dependencies(("", "a"))[0]))
        self.assertEqual(["w1"], store.add(("write", "w3", (), ("a",), 1)))
        self.assertEqual((["w1", "w2"], 3), (store.retracted(), store.retracted_price()))
        self.assertIs(True, store.dependencies(("", "a"))[0])

    def test_seal(self):
        store = filled(W1, W2)
        self.assertEqual(["w1"], store.seal("w2"))
        self.assertEqual((W2[:4] + (None,),), store.log())

    def test_a_commit_of_a_retracted_write(self):
        store = filled(W1, W2, retracted=["gone", "w2"])
        self.assertEqual([], store.commit("w2"))
        self.assertEqual(((W1,), 6, ["gone"], 0), state(store))
        store = filled(W1, W2, retracted=["gone"])
        store.commit("w1")
        self.assertEqual(((W2,), 8, ["gone"], 0), state(store))
        store = filled(W1, budget=2)
        store.commit("w1")
        self.assertEqual(((), 0, [], 0), state(store))

    def test_the_present_budget_again(self):
        store = filled(W1, W2)
        self.assertEqual([], store.lower_budget(10))
        self.assertEqual([], store.lower_budget(4))
        self.assertEqual(["w1"], store.lower_budget(3))
        self.assertEqual([], store.lower_budget(0))
        self.assertEqual(((W2,), 0, [], 0), state(store))

    def test_budgets_lowered_step_by_step_or_at_once(self):
        chance = random.Random(41)
        for _ in range(150):
            log = some_log(chance, 14)
            steps = sorted(chance.sample(range(60), 4), reverse=True)
            one, other = filled(budget=steps[0]), filled(budget=steps[0])
            deleted = []
            for entry in log:
                deleted += one.add(entry)
                other.add(entry)
            for budget in steps:
                deleted += one.lower_budget(budget)
            at_once = other.lower_budget(steps[-1])
            self.assertEqual(compacted(log, budget=steps[-1]), one.log())
            self.assertEqual(one.log(), other.log())
            self.assertEqual(sorted(set(entry[1] for entry in log) - {e[1] for e in one.log()}), sorted(deleted))
            self.assertEqual([e[1] for e in log if e[1] in at_once], at_once)

    def test_the_time_of_a_retraction_does_not_matter(self):
        chance = random.Random(42)
        for _ in range(100):
            log = some_log(chance, 10)
            budget = chance.choice([0, 1, 3, 6, 102])
            gone = [name for name in prices_of(log) if chance.random() < 0.4] + ["never"]
            adds = [("add", entry) for entry in log]
            runs = [[("retract", name) for name in gone] + adds, adds + [("retract", name) for name in gone]]
            mixed = list(adds)
            for name in gone:
                mixed.insert(chance.randint(0, len(mixed)), ("retract", name))
            # What was restored may be retracted again.
            at = mixed.index(("retract", "never")) + 1
            runs.append(mixed[:at] + [("restore", "never")] + mixed[at:] + [("retract", "never")])
            ended = []
            for commands in runs:
                store = Store(budget)
                for command in commands:
                    run(store, command)
                ended.append((state(store), [store.dependencies(target) for target in targets_of(log)]))
            self.assertEqual(ended[0], ended[1])
            self.assertEqual(ended[0], ended[2])


class Dependencies(Checks, unittest.TestCase):
    def test_exact_up_to_the_budget(self):
        for budget, exact in ((5, False), (6, True), (7, True), (999, True)):
            store = filled(W1, Q1, W2, budget=budget, retracted=["w1", "w2", "gone"])
            self.assertTrue(same((exact, [("", "a", None)]), store.dependencies(("", "a"))))
            self.assertTrue(same((exact, [("q1", "b", None)]), store.dependencies(("q1", "b"))))

    def test_nothing_retracted(self):
        store = filled(W1, S1, budget=0)
        self.assertTrue(same((True, [("", "c", "s1"), ("s1", "a", "w1")]), store.dependencies(("", "c"))))
        self.assertTrue(same((True, [("", "zzzz", None)]), store.dependencies(("", "zzzz"))))
        store.retract("w1")
        self.assertTrue(same((False, [("", "c", "s1"), ("s1", "a", None)]), store.dependencies(("", "c"))))

    def test_what_is_deleted_may_be_missed_if_the_answer_is_not_exact(self):
        store = filled(W1, W2, budget=3, retracted=["w2"])
        self.assertEqual((False, [("", "a", None)]), store.dependencies(("", "a")))

    def test_any_value_as_a_target(self):
        store = filled(W1, Q1, W2, retracted=["w2", "gone"])
        for value in ANY_VALUES + [["", "a"], ("", "a", "b"), "qa", ("q1",)]:
            if value != ("", "a"):
                self.check_error(UnknownId, "entry_id", value, store.dependencies, value)
        for value in NO_IDS + ["w1", "w2", "gone", "q9"]:
            if value != "":
                self.check_error(UnknownId, "entry_id", value, store.dependencies, (value, "a"))
                self.check_error(UnknownId, "entry_id", value, store.dependencies, (value, None))
        for value in ANY_VALUES + ["zzzz"]:
            if value not in ("a", "b"):
                self.check_error(UnknownCell, "cell", value, store.dependencies, ("q1", value))
            if value not in ("a", "abcd", "zzzz"):
                self.check_error(UnknownCell, "cell", value, store.dependencies, ("", value))

    def test_it_changes_nothing(self):
        store = filled(W1, Q1, W2, retracted=["w2"])
        before = state(store)
        self.check_fresh(store.dependencies, ("q1", "a"))
        self.assertEqual(before, state(store))


class ApplyAll(Checks, unittest.TestCase):
    def test_all_deleted_ids_in_the_order_of_deletion(self):
        store = Store(9)
        commands = [("add", ("write", f"w{number}", (), ("a",), 3)) for number in range(5)]
        self.assertEqual(["w0"], store.apply_all(commands))
        self.assertEqual(["w1", "w2", "w3"], store.apply_all([("lower_budget", 6), ("seal", "w4"), ("retract", "x")]))
        self.assertEqual(((("write", "w4", (), ("a",), None),), 6, ["x"], 0), state(store))
        self.assertEqual([("begin", 5), ("end", True), ("begin", 3), ("end", True)], store.notes())

    def test_the_order_of_deletion_is_not_that_of_the_log(self):
        log = (("write", "w0", (), ("a",), 1), ("write", "w1", (), ("b",), 1))
        store = filled(*log, budget=1)
        commands = [("add", ("write", "w2", (), ("b",), 9)), ("add", ("write", "w3", (), ("a",), 9))]
        self.assertEqual(["w1", "w0"], store.apply_all(commands))

    def test_every_command(self):
        store = Store(10)
        commands = (
            ("add", W1), ("add", Q1), ("retract", "w1"), ("restore", "w1"), ("seal", "w1"), ("drop", "q1"),
            ("add", W2), ("commit", "w2"), ("lower_budget", 5),
        )
        self.assertEqual([], store.apply_all(commands))
        self.assertEqual(((W1[:4] + (None,),), 5, [], 0), state(store))
        self.assertEqual([("begin", 9), ("end", True)], store.notes())

    def test_no_commands(self):
        store = Store()
        self.assertEqual("[]", repr(store.apply_all([])))
        self.assertEqual("[]", repr(store.apply_all(())))
        self.assertTrue(same([("begin", 0), ("end", True)] * 2, store.notes()))

    def test_any_value_that_is_no_command(self):
        for value in NO_COMMANDS:
            store = filled(W1, retracted=["w9"])
            before = state(store)
            for count in (0, 1, 2):
                # The commands before it and behind it would raise errors, too, if they were run.
                commands = [("retract", "w2"), ("retract", "w9")][:count] + [value, ("drop", "w1"), value]
                self.check_error(InvalidCommand, "position", count, store.apply_all, commands)
                self.check_error(InvalidCommand, "position", count, store.apply_all, tuple(commands))
            self.assertEqual((before, []), (state(store), store.notes()))

    def test_any_value_that_is_no_list(self):
        store = filled(W1)
        for value in ANY_VALUES + [{0: ("retract", "w1")}, "retract"]:
            if same(value, []) or same(value, ()):
                continue
            self.check_error(InvalidCommand, "position", 0, store.apply_all, value)
        self.assertEqual(((W1,), 10, [], 0), state(store))
        self.assertEqual([], store.notes())

    def test_arguments_of_any_kind_are_commands(self):
        for name in ("retract", "restore", "seal", "drop", "commit"):
            for value in NO_IDS:
                store = filled(W1)
                self.check_error(UnknownId, "entry_id", value, store.apply_all, [("retract", "w1"), (name, value)])
                self.assertEqual(((W1,), 10, [], 0), state(store))
                self.assertEqual([("begin", 2), ("end", False)], store.notes())
        for value in NO_BUDGETS:
            store = filled(W1)
            self.check_error(InvalidBudget, None, None, store.apply_all, [("add", W2), ("lower_budget", value)])
            self.assertEqual(((W1,), 10, [], 0), state(store))

    def test_the_first_error_of_a_command(self):
        store = filled(W1, W2, Q1, retracted=["w1"])
        before = state(store)
        commands = [("commit", "w1"), ("drop", "q1"), ("seal", "w2"), ("lower_budget", 3), ("add", S1)]
        for last, error in ((("drop", "q1"), UnknownId), (("add", S1), DuplicateId), (("seal", "w2"), SealedWrite)):
            self.check_error(error, "entry_id", last[1][1] if last[0] == "add" else last[1], store.apply_all, [
                *commands, last, ("drop", "nothing"),
            ])
            self.assertEqual(before, state(store))
        self.check_error(InvalidBudget, None, None, store.apply_all, commands + [("lower_budget", 4)])
        self.assertEqual(before, state(store))
        self.assertEqual([("begin", 7), ("end", False)] * 3 + [("begin", 6), ("end", False)], store.notes())
        store.apply_all(commands)
        self.assertEqual((("write", "w2", (), ("a",), None), S1), store.log())
        self.assertEqual([("begin", 5), ("end", True)], store.notes()[-2:])

    def test_all_or_none_of_made_up_commands(self):
        chance = random.Random(43)
        ends = {True: 0, False: 0}
        for _ in range(150):
            store = filled(budget=chance.choice([0, 2, 5, 20]))
            for number in range(0, 40, 4):
                commands = [some_command(chance, store, number + at) for at in range(4)]
                alone, before, deleted, error = store.duplicate(), state(store), [], None
                try:
                    for command in commands:
                        deleted += run(alone, command)
                except LogError as raised:
                    error = raised
                ends[error is None] += 1
                if error is None:
                    self.assertEqual(deleted, store.apply_all(commands))
                    self.assertEqual(state(alone), state(store))
                else:
                    with self.assertRaises(type(error)) as caught:
                        store.apply_all(commands)
                    self.assertTrue(same(vars(error), vars(caught.exception)))
                    self.assertEqual(before, state(store))
                self.assertTrue(same([("begin", 4), ("end", error is None)], store.notes()[-2:]))
        self.assertGreater(min(ends.values()), 100)


class Copies(Checks, unittest.TestCase):
    def test_store_of(self):
        for budget in (4, 10, 999):
            self.assertEqual(((W1, W2), budget, [], 0), state(store_of((W1, W2), budget=budget)))
        store = store_of((W1, ("write", "w2", (), ("a",), 10)))
        self.assertEqual((10, []), (store.budget(), store.notes()))
        self.assertEqual(((), 0, [], 0), state(store_of((), budget=0)))
        self.assertEqual(["w1"], store.lower_budget(9))
        self.assertEqual([], store.add(W1))

    def test_store_of_the_log_of_a_store(self):
        chance = random.Random(44)
        for _ in range(60):
            log, budget = some_log(chance), chance.choice([0, 1, 3, 102])
            kept = filled(*log, budget=budget)
            store = store_of(kept.log(), budget=budget)
            self.assertEqual(state(kept), state(store))
            self.assertIsNot(store, kept)

    def test_errors_of_store_of(self):
        two = (W1, W2)
        for log in [value for value in ANY_VALUES if not same(value, ())] + [list(two), two + two[:1], W1]:
            for budget in (0, 10, -1, None):
                self.check_error(InvalidLog, None, None, store_of, log, budget=budget)
        for value in NO_BUDGETS:
            self.check_error(InvalidBudget, None, None, store_of, two, budget=value)
        for budget in (0, 3):
            self.check_error(NotCompact, None, None, store_of, two, budget=budget)
        self.check_error(NotCompact, None, None, store_of, (W1, ("write", "w2", (), ("a",), 11)))
        sealed = (W1, ("write", "s2", (), ("a",), None))
        self.check_error(NotCompact, None, None, store_of, sealed, budget=999)
        with self.assertRaises(TypeError):
            store_of(two, 5)

    def test_duplicate(self):
        store = filled(W1, Q1, W2, retracted=["w2", "gone"])
        store.apply_all([("retract", "w5")])
        other = store.duplicate()
        self.assertIsNot(store, other)
        self.assertIs(Store, type(other))
        self.assertEqual((state(store), store.notes()), (state(other), other.notes()))

    def test_a_duplicate_is_independent(self):
        commands = [
            ("add", S1), ("retract", "w1"), ("restore", "w2"), ("seal", "w1"), ("drop", "q1"), ("commit", "w1"),
            ("lower_budget", 0),
        ]
        for command in commands:
            one = filled(W1, Q1, W2, retracted=["w2", "gone"])
            one.apply_all([])
            before = (state(one), one.notes())
            other = one.duplicate()
            run(other, command)
            other.apply_all([command[:1] + ("w8",)] if command[0] == "retract" else [])
            self.assertNotEqual(state(one), state(other))
            self.assertEqual(before, (state(one), one.notes()))
            self.assertEqual(4, len(other.notes()))
            copy_of = one.duplicate()
            run(one, command)
            one.apply_all([])
            self.assertEqual(before, (state(copy_of), copy_of.notes()))

    def test_each_list_is_new(self):
        store = filled(W1, Q1, W2, retracted=["w2", "gone"])
        store.apply_all([("retract", "w7")])
        self.check_fresh(store.retracted)
        self.check_fresh(store.notes)
        commands = [("add", S1), ("retract", "w1")]
        deleted = store.apply_all(commands)
        commands.clear()
        deleted.append("w1")
        self.assertEqual((["gone", "w1", "w2", "w7"], S1), (store.retracted(), store.log()[-1]))
        for name, value in (("retract", "w8"), ("restore", "w8"), ("drop", "q1"), ("lower_budget", 3)):
            run(store, (name, value)).append("w9")
        self.assertEqual([], store.apply_all([]))

    def test_all_retractions_of_a_small_log_are_answered_as_by_the_complete_log(self):
        chance = random.Random(45)
        for _ in range(60):
            log = some_log(chance, 7)
            store = filled(*log, budget=chance.choice([0, 1, 3, 6]))
            for name in prices_of(log):
                if chance.random() < 0.5:
                    store.retract(name)
            for target in targets_of(log):
                exact, triples = store.dependencies(target)
                if exact:
                    self.assertEqual(defined_triples(log, target, store.retracted())[0], triples)


if __name__ == "__main__":
    unittest.main()
