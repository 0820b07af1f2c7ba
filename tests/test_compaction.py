"""Tests of neverwas.compaction: [4.1] to [4.3], what [0.2] guarantees of it and, as far as it reaches, [0.3]."""

import random
import unittest

from helper import ANY_VALUES, NO_BUDGETS, NO_IDS, Checks, busy_log, defined_compacted, defined_edges, defined_ways
from helper import ids_of, is_usable, price_along, prices_of, retractions_of, same, some_log, targets_of
from neverwas.compaction import DEFAULT_BUDGET, compacted, explanation, is_compact, is_explanation
from neverwas.dependencies import dependencies, dependency_set
from neverwas.errors import InvalidBudget, InvalidLog, UnknownId
from neverwas.paths import all_costs, cheapest_path, retractions_for

TWO = (("write", "w1", (), ("a",), 2), ("write", "w2", (), ("a",), 4))
LOG = (
    ("write", "w1", (), ("a",), 2),
    ("write", "w2", (), ("a",), 4),
    ("query", "q1", ("b",)),
    ("write", "s1", (), ("c",), None),
    ("write", "w3", (), ("a", "c"), 6),
    ("write", "s2", (), ("c",), None),
    ("write", "w4", ("a",), ("b",), 3),
    ("query", "q2", ("a", "b")),
    ("write", "w5", (), ("a", "b"), 5),
)
COSTS = {"w1": 10, "w2": 6, "s1": None, "w3": 0, "s2": 0, "w4": 0, "w5": 0}
NO_LOGS = [value for value in ANY_VALUES if not same(value, ())] + [list(LOG), LOG + LOG[:1], LOG[0]]
CALLS = (
    (compacted, ()), (is_compact, ()), (explanation, ("w1",)), (is_explanation, ("w1", ("kept", ("", "a"), ()))),
)


def without(log, *ids):
    return tuple(entry for entry in log if entry[1] not in ids)


def are_valid_labels(log, value, budget):
    """Return whether the labels are valid, by the words of [4.3]."""
    if not isinstance(value, dict) or sorted(map(repr, value)) != sorted(map(repr, ids_of(log, "write"))):
        return False
    if not all(type(label) is int and 0 <= label <= budget + 1 for label in value.values()):
        return False
    for position, entry in enumerate(log):
        if entry[0] == "write":
            for edge in filter(is_usable, defined_edges(log, position)):
                if value[entry[1]] > min(price_along(edge) + value.get(edge[1], 0), budget + 1):
                    return False
    return True


class Examples(unittest.TestCase):
    def test_compacted(self):
        self.assertEqual((("write", "w2", (), ("a",), 4),), compacted(TWO, budget=3))

    def test_is_compact(self):
        self.assertEqual((True, False), (is_compact(TWO), is_compact(TWO, budget=3)))

    def test_explanation(self):
        self.assertEqual(("kept", ("", "a"), ["w2"]), explanation(TWO, "w1", budget=4))

    def test_is_explanation(self):
        self.assertIs(True, is_explanation(TWO, "w1", ("deleted", {"w1": 4, "w2": 0}), budget=3))


class Budgets(Checks, unittest.TestCase):
    def test_the_default_is_10(self):
        self.assertEqual("10", repr(DEFAULT_BUDGET))
        log = (("write", "w1", (), ("a",), 2), ("write", "w2", (), ("a",), 10))
        self.assertEqual(log, compacted(log))
        self.assertIs(True, is_compact(log))
        self.assertEqual(("kept", ("", "a"), ["w2"]), explanation(log, "w1"))
        self.assertIs(True, is_explanation(log, "w1", ("kept", ("", "a"), ["w2"])))
        log = log[:1] + (("write", "w2", (), ("a",), 11),)
        self.assertEqual(log[1:], compacted(log))
        self.assertIs(False, is_compact(log))
        self.assertEqual(("deleted", {"w1": 11, "w2": 0}), explanation(log, "w1"))
        self.assertIs(False, is_explanation(log, "w1", ("kept", ("", "a"), ["w2"])))
        self.assertIs(True, is_explanation(log, "w1", ("deleted", {"w1": 11, "w2": 0})))

    def test_any_value_that_is_not_a_budget(self):
        for call, others in CALLS:
            for value in NO_BUDGETS:
                self.check_error(InvalidBudget, None, None, call, LOG, *others, budget=value)
                self.check_error(InvalidBudget, None, None, call, (), *others, budget=value)

    def test_every_budget(self):
        for call, others in CALLS:
            for value in (0, 1, 2, 9, 10, 11, 500, 998, 999):
                self.check_steady(call, LOG, *others, budget=value)

    def test_invalid_log_comes_first(self):
        for call, others in CALLS:
            for log in NO_LOGS:
                for value in (0, 10, 999, -1, 1000, None, True):
                    self.check_error(InvalidLog, None, None, call, log, *others, budget=value)

    def test_the_budget_comes_before_the_other_arguments(self):
        for value in (-1, 1000, None, False):
            for entry_id in (None, "", "q1", "w9", ["w1"]):
                self.check_error(InvalidBudget, None, None, explanation, LOG, entry_id, budget=value)
                self.check_error(InvalidBudget, None, None, is_explanation, LOG, entry_id, None, budget=value)

    def test_the_budget_is_keyword_only(self):
        for call, others in CALLS:
            with self.assertRaises(TypeError):
                call(LOG, *others, 3)


class Compaction(Checks, unittest.TestCase):
    def test_costs_of_at_most_the_budget(self):
        self.assertEqual(COSTS, all_costs(LOG))
        for budget, gone in ((0, ("w1", "w2", "s1")), (5, ("w1", "w2", "s1")), (6, ("w1", "s1")), (9, ("w1", "s1"))):
            self.assertEqual(without(LOG, *gone), compacted(LOG, budget=budget))
        for budget in (10, 11, 999):
            self.assertEqual(without(LOG, "s1"), compacted(LOG, budget=budget))

    def test_writes_without_a_path_are_always_deleted(self):
        log = (("write", "w1", (), ("a",), 1), ("write", "s1", (), ("a",), None))
        self.assertEqual(log[1:], compacted(log, budget=999))
        self.assertIs(False, is_compact(log, budget=999))

    def test_costs_around_999(self):
        log = tuple(("write", f"w{number}", (), ("a",), 99) for number in range(11)) + (
            ("write", "w11", (), ("a",), 9), ("query", "q", ("b",)),
        )
        self.assertEqual(999, all_costs(log)["w0"])
        self.assertEqual(log, compacted(log, budget=999))
        self.assertEqual(log[1:], compacted(log, budget=998))
        log = log[:11] + (("write", "w11", (), ("a",), 10),) + log[12:]
        self.assertEqual(log[1:], compacted(log, budget=999))

    def test_queries_are_kept(self):
        log = (("query", "q1", ("a",)), ("write", "w1", (), ("a",), 5), ("query", "q2", ("b",)), TWO[1])
        self.assertEqual(without(log, "w1"), compacted(log, budget=3))
        self.assertEqual(log[:1], compacted(log[:1], budget=0))

    def test_no_entries(self):
        for budget in (0, 999):
            self.assertEqual((), compacted((), budget=budget))
            self.assertIs(True, is_compact((), budget=budget))

    def test_many_logs_against_the_definition(self):
        chance = random.Random(13)
        for log in [some_log(chance) for _ in range(250)] + [busy_log(), busy_log(99), busy_log(None)]:
            for budget in (0, 1, 3, 10, 102, 999):
                expected = defined_compacted(log, budget)
                self.assertEqual(expected, compacted(log, budget=budget))
                self.assertIs(expected == log, is_compact(log, budget=budget))

    def test_a_full_log(self):
        log = tuple(("write", f"w{number}", (), ("a",), 1) for number in range(60))
        for budget in (0, 1, 30, 58, 59, 999):
            self.assertEqual(log[-budget - 1:], compacted(log, budget=budget))
        sealed = log[:59] + (("write", "w59", (), ("a",), None),)
        self.assertEqual(sealed[59:], compacted(sealed, budget=999))

    def test_the_documented_names(self):
        self.assertEqual(TWO[1:], compacted(budget=3, log=TWO))
        self.assertIs(False, is_compact(budget=3, log=TWO))


class Explanations(Checks, unittest.TestCase):
    def test_kept(self):
        self.assertEqual(("kept", ("q2", "a"), []), explanation(LOG, "w3", budget=0))
        self.assertEqual(("kept", ("q2", "a"), ["w3"]), explanation(LOG, "w2", budget=6))
        self.assertEqual(("kept", ("q2", "a"), ["w2", "w3"]), explanation(LOG, "w1", budget=10))
        self.assertEqual(("kept", ("", "c"), []), explanation(LOG, "s2", budget=0))

    def test_deleted(self):
        kind, labels = explanation(LOG, "w1", budget=9)
        self.assertEqual("deleted", kind)
        self.assertEqual(10, labels["w1"])
        self.assertTrue(are_valid_labels(LOG, labels, 9))
        for budget in (0, 10, 999):
            kind, labels = explanation(LOG, "s1", budget=budget)
            self.assertEqual("deleted", kind)
            self.assertEqual(budget + 1, labels["s1"])
            self.assertTrue(are_valid_labels(LOG, labels, budget))

    def test_many_logs_against_the_definition(self):
        chance = random.Random(14)
        found = {"kept": 0, "deleted": 0}
        for log in [some_log(chance) for _ in range(150)] + [busy_log(), busy_log(99)]:
            ways = defined_ways(log)
            for budget in (0, 3, 10, 999):
                for entry_id, way in ways.items():
                    value = explanation(log, entry_id, budget=budget)
                    found[value[0]] += 1
                    if way is not None and way[0] <= budget:
                        expected = ("kept", way[1][-1], retractions_for(log, entry_id, way[1]))
                        self.assertTrue(same(expected, value), (expected, value))
                    else:
                        self.assertIs(tuple, type(value))
                        self.assertEqual(("deleted", 2), (value[0], len(value)))
                        self.assertEqual(budget + 1, value[1][entry_id])
                        self.assertTrue(are_valid_labels(log, value[1], budget), (log, value))
        self.assertGreater(min(found.values()), 100)

    def test_explanations_are_explanations(self):
        chance = random.Random(15)
        for log in [some_log(chance) for _ in range(100)] + [busy_log(), busy_log(99)]:
            for budget in (0, 3, 999):
                for entry_id in ids_of(log, "write"):
                    value = explanation(log, entry_id, budget=budget)
                    self.assertIs(True, is_explanation(log, entry_id, value, budget=budget), (log, value))

    def test_ids_that_are_not_those_of_a_write(self):
        for log in ((), LOG):
            for value in NO_IDS + ["q1", "q2", "w9", LOG[0]]:
                self.check_error(UnknownId, "entry_id", value, explanation, log, value)
                for other in (None, ("kept", ("", "a"), ()), ("deleted", {})):
                    self.check_error(UnknownId, "entry_id", value, is_explanation, log, value, other)

    def test_the_documented_names(self):
        self.assertEqual(("kept", ("", "a"), ["w2"]), explanation(budget=4, entry_id="w1", log=TWO))
        value = ("kept", ("", "a"), ["w2"])
        self.assertIs(True, is_explanation(budget=4, value=value, entry_id="w1", log=TWO))

    def test_each_list_and_dict_is_new(self):
        self.check_fresh(explanation, LOG, "w1", budget=10)
        self.check_fresh(explanation, LOG, "w3", budget=0)
        self.check_fresh(explanation, LOG, "w1", budget=9)
        self.check_steady(is_explanation, LOG, "w1", ("kept", ["", "a"], ["w2", "w3"]))
        self.check_steady(is_explanation, LOG, "w1", ("deleted", explanation(LOG, "w1", budget=9)[1]), budget=9)


class KeptForms(unittest.TestCase):
    def check(self, expected, entry_id, value, budget=10):
        self.assertIs(expected, is_explanation(LOG, entry_id, value, budget=budget), value)

    def test_the_price_is_at_most_the_budget(self):
        value = ("kept", ("q2", "a"), ["w2", "w3"])
        for budget, expected in ((0, False), (9, False), (10, True), (11, True), (999, True)):
            self.check(expected, "w1", value, budget)

    def test_the_list_need_not_be_a_cheapest_one(self):
        self.check(True, "w3", ("kept", ("", "a"), ["w5"]))
        self.check(True, "w3", ("kept", ("", "a"), ["w5"]), 5)
        self.check(False, "w3", ("kept", ("", "a"), ["w5"]), 4)
        self.check(True, "w3", ("kept", ("q2", "b"), ["w1", "w5", "w2"]), 11)
        self.check(False, "w3", ("kept", ("q2", "b"), ["w1", "w5", "w2"]), 10)
        self.check(True, "w3", ("kept", ("q2", "b"), []), 0)

    def test_a_tuple_counts_as_a_list(self):
        self.check(True, "w1", ("kept", ("q2", "a"), ("w2", "w3")))
        self.check(True, "w3", ("kept", ("q2", "a"), ()), 0)

    def test_each_write_counts_once(self):
        self.check(True, "w1", ("kept", ("q2", "a"), ["w2", "w3", "w2", "w3", "w3"]))
        self.check(False, "w1", ("kept", ("q2", "a"), ["w2", "w3", "w2", "w3", "w3"]), 9)

    def test_ids_that_do_not_occur_cost_nothing(self):
        self.check(True, "w1", ("kept", ("q2", "a"), ["w9", "w2", "q9", "w3", "w9"]))
        self.check(True, "w3", ("kept", ("q2", "a"), ["w9", "zzzzzz"]), 0)

    def test_the_target_depends_on_the_write(self):
        self.check(False, "w1", ("kept", ("q2", "a"), ["w2"]))
        self.check(False, "w1", ("kept", ("q2", "a"), ["w3"]))
        self.check(False, "w1", ("kept", ("q2", "a"), ["w2", "w9"]))
        self.check(False, "w1", ("kept", ("", "a"), ["w2", "w3"]))
        self.check(False, "w1", ("kept", ("q1", "b"), ["w2", "w3"]))
        self.check(False, "w1", ("kept", ("", "zzzz"), ["w2", "w3"]))
        self.check(False, "w4", ("kept", ("q1", "b"), []))
        self.check(True, "w4", ("kept", ("q2", "b"), []))

    def test_the_write_itself_is_retracted(self):
        self.check(True, "w3", ("kept", ("q2", "a"), ["w2"]))
        self.check(False, "w3", ("kept", ("q2", "a"), ["w3"]))
        self.check(False, "w1", ("kept", ("q2", "a"), ["w1", "w2", "w3"]), 999)

    def test_second_items_that_are_no_targets(self):
        pairs = [("w4", "a"), ("q9", "a"), ("q2", "c"), ("q2", "zzzz"), ("a", "q2")]
        for value in ANY_VALUES + pairs + ["qa", ["q2", "a"], ("q2",), ("q2", "a", "w3")]:
            self.check(False, "w3", ("kept", value, []))
        for value in ANY_VALUES:
            if value not in ("a", "b"):
                self.check(False, "w3", ("kept", ("q2", value), []))
            self.check(False, "w3", ("kept", (value, "a"), []))

    def test_third_items_that_are_no_retractions(self):
        for value in ANY_VALUES:
            if not same(value, []) and not same(value, ()):
                expected = value in (["a"], ("a",), ["w1"], ("w1",))
                self.check(expected, "w3", ("kept", ("q2", "a"), value))
            if value not in ("a", "abcd", "abcde", "w1", "abcdef", "123456", "write", "query"):
                self.check(False, "w3", ("kept", ("q2", "a"), [value]))
                self.check(False, "w3", ("kept", ("q2", "a"), ("w1", value)))
        for value in (["q1"], ["s1"], ["w1", "q2"], ["w9", "s2"], {"w1": 1}, "w1"):
            self.check(False, "w3", ("kept", ("q2", "a"), value), 999)

    def test_other_forms(self):
        value = ("kept", ("q2", "a"), [])
        self.check(True, "w3", value)
        for other in (list(value), value[:2], value[:1], value[1:], value + ((),), value + (None,)):
            self.check(False, "w3", other)
        self.check(False, "w3", value[::-1])
        self.check(False, "w3", (value,))
        for word in ANY_VALUES + ["Kept", "kep", "keptt", "deleted"]:
            self.check(False, "w3", (word,) + value[1:])
        for other in ANY_VALUES:
            self.check(False, "w3", other)
            self.check(False, "w3", (other, other))
            self.check(False, "w3", (other, other, other))

    def test_all_retractions_of_many_logs(self):
        chance = random.Random(16)
        found = {True: 0, False: 0}
        for _ in range(30):
            log = some_log(chance, 6)
            for price, retracted in retractions_of(log):
                for target in targets_of(log):
                    writes = dependency_set(log, target, retracted=retracted)
                    for entry_id in ids_of(log, "write"):
                        for budget in (0, 3, 102):
                            expected = entry_id in writes and price <= budget
                            found[expected] += 1
                            value = ("kept", target, retracted)
                            self.assertIs(expected, is_explanation(log, entry_id, value, budget=budget))
        self.assertGreater(min(found.values()), 500)


class DeletedForms(unittest.TestCase):
    LABELS = {"w1": 10, "w2": 6, "s1": 10, "w3": 0, "s2": 0, "w4": 0, "w5": 0}

    def check(self, expected, labels, entry_id="w1", budget=9):
        self.assertIs(expected, is_explanation(LOG, entry_id, ("deleted", labels), budget=budget), labels)

    def test_valid_labels(self):
        self.check(True, self.LABELS)
        self.check(True, self.LABELS, "s1")
        self.check(True, {**self.LABELS, "w2": 0})
        self.check(True, {**self.LABELS, "s1": 0})
        self.check(True, dict(reversed(list(self.LABELS.items()))))

    def test_the_label_of_this_write_is_above_the_budget(self):
        self.check(False, self.LABELS, "w2")
        self.check(False, self.LABELS, "w3")
        self.check(False, {**self.LABELS, "w1": 9})
        self.check(False, {**self.LABELS, "s1": 9}, "s1")
        self.check(False, {name: 0 for name in self.LABELS})

    def test_labels_that_are_too_high(self):
        self.check(False, {**self.LABELS, "w2": 7})
        self.check(False, {**self.LABELS, "w3": 1})
        self.check(False, {**self.LABELS, "s2": 1})
        self.check(False, {**self.LABELS, "w4": 1})
        self.check(False, {**self.LABELS, "w5": 1})
        self.check(False, {**self.LABELS, "w1": 11}, budget=10)

    def test_the_label_of_the_reader_counts(self):
        log = (
            ("write", "w1", (), ("a",), 1),
            ("write", "w2", (), ("a",), 3),
            ("write", "w3", ("a",), ("b",), 1),
            ("write", "w4", (), ("a", "b"), 9),
        )
        for labels, expected in (
            ({"w1": 12, "w2": 9, "w3": 9, "w4": 0}, True),
            ({"w1": 12, "w2": 9, "w3": 8, "w4": 0}, False),
            ({"w1": 12, "w2": 10, "w3": 9, "w4": 0}, False),
            ({"w1": 12, "w2": 8, "w3": 9, "w4": 0}, True),
        ):
            value = ("deleted", labels)
            self.assertIs(expected, is_explanation(log, "w1", value, budget=11), value)
            self.assertIs(False, is_explanation(log, "w1", value, budget=12), value)

    def test_labels_from_0_to_budget_plus_1(self):
        self.check(True, {**self.LABELS, "s1": 10})
        self.check(False, {**self.LABELS, "s1": 11})
        self.check(False, {**self.LABELS, "s1": -1})
        self.check(False, {**self.LABELS, "w5": -1})
        self.check(False, {**self.LABELS, "w1": 11})

    def test_labels_that_are_no_integers(self):
        for value in ANY_VALUES:
            if not isinstance(value, int) or isinstance(value, bool):
                for name in self.LABELS:
                    self.check(False, {**self.LABELS, name: value})
        log = (("write", "w1", (), ("a",), 1), ("write", "s1", (), ("a",), None))
        self.assertIs(True, is_explanation(log, "w1", ("deleted", {"w1": 1, "s1": 0}), budget=0))
        self.assertIs(False, is_explanation(log, "w1", ("deleted", {"w1": True, "s1": 0}), budget=0))
        self.assertIs(False, is_explanation(log, "w1", ("deleted", {"w1": 1, "s1": False}), budget=0))

    def test_exactly_the_ids_of_all_writes(self):
        for name in self.LABELS:
            fewer = {key: label for key, label in self.LABELS.items() if key != name}
            self.check(False, fewer, "s1" if name == "w1" else "w1")
            self.check(False, fewer, name)
            for other in ("w9", "q1", "", None, 0, True, ("w1",), "W1"):
                self.check(False, {**fewer, other: 0}, "s1" if name == "w1" else "w1")
        for other in ("w9", "q1", "q2", "", None, 0, 1, True, ("w1",)):
            self.check(False, {**self.LABELS, other: 0})
        self.check(False, {})

    def test_other_forms(self):
        for value in ANY_VALUES + [list(self.LABELS.items()), tuple(self.LABELS.items()), list(self.LABELS), 10]:
            self.check(False, value)
        value = ("deleted", self.LABELS)
        for other in (list(value), value[:1], value + ((),), value + ([],), value[::-1], (value,), self.LABELS):
            self.assertIs(False, is_explanation(LOG, "w1", other, budget=9), other)
        for word in ANY_VALUES + ["Deleted", "delete", "kept"]:
            self.assertIs(False, is_explanation(LOG, "w1", (word, self.LABELS), budget=9), word)

    def test_many_labels_against_the_definition(self):
        chance = random.Random(17)
        found = {True: 0, False: 0}
        for _ in range(150):
            log = some_log(chance)
            for budget in (0, 3, 103):
                for entry_id in ids_of(log, "write"):
                    costs = all_costs(log)
                    labels = {}
                    for name, cost in costs.items():
                        labels[name] = budget + 1 if cost is None else min(cost, budget + 1)
                    for name in chance.choices(list(labels), k=chance.randint(0, 2)):
                        labels[name] = max(0, labels[name] + chance.choice([-1, -1, -2, -3, 1]))
                    labels[entry_id] = budget + 1
                    expected = are_valid_labels(log, labels, budget)
                    found[expected] += 1
                    value = ("deleted", labels)
                    self.assertIs(expected, is_explanation(log, entry_id, value, budget=budget), (log, value, budget))
        self.assertGreater(min(found.values()), 100, found)


class Guarantees(unittest.TestCase):
    """What [0.2] guarantees of compaction."""

    def test_the_kept_entries_have_the_same_dependencies(self):
        chance = random.Random(18)
        for _ in range(60):
            log = some_log(chance, 8)
            prices = prices_of(log)
            for budget in (0, 2, 5, 101):
                kept = compacted(log, budget=budget)
                left = ids_of(kept, "write")
                for _, retracted in chance.sample(retractions_of(log), min(12, 2 ** len(prices))):
                    if sum(prices[name] for name in retracted if name in left) <= budget:
                        for target in targets_of(log):
                            self.assertEqual(
                                dependencies(log, target, retracted=retracted),
                                dependencies(kept, target, retracted=retracted),
                                (log, budget, retracted),
                            )

    def test_the_kept_writes_have_the_same_cheapest_paths(self):
        chance = random.Random(19)
        for log in [some_log(chance) for _ in range(150)] + [busy_log(), busy_log(99)]:
            costs = all_costs(log)
            for budget in (0, 2, 5, 101, 999):
                kept = compacted(log, budget=budget)
                left = {name: cost for name, cost in costs.items() if cost is not None and cost <= budget}
                self.assertEqual(list(left.items()), list(all_costs(kept).items()))
                for name in left:
                    self.assertEqual(cheapest_path(log, name), cheapest_path(kept, name))
                    self.assertEqual(explanation(log, name, budget=budget), explanation(kept, name, budget=budget))

    def test_explanations_show_the_cheapest_retractions_or_that_there_are_none(self):
        chance = random.Random(20)
        for _ in range(30):
            log = some_log(chance, 6)
            prices = prices_of(log)
            for entry_id in ids_of(log, "write"):
                least = None
                for price, retracted in retractions_of(log):
                    for target in targets_of(log):
                        if entry_id in dependency_set(log, target, retracted=retracted):
                            least = price if least is None else min(price, least)
                for budget in (0, 2, 3, 102, 999):
                    value = explanation(log, entry_id, budget=budget)
                    self.assertEqual(least is not None and least <= budget, value[0] == "kept", (log, entry_id))
                    if value[0] == "kept":
                        self.assertEqual(least, sum(prices[name] for name in value[2]))
                        self.assertIn(entry_id, dependency_set(log, value[1], retracted=value[2]))

    def test_compacting_at_any_time_gives_the_same_entries(self):
        chance = random.Random(21)
        for log in [some_log(chance) for _ in range(150)] + [busy_log()]:
            for budget in (0, 2, 5, 101):
                always, sometimes = (), ()
                for entry in log:
                    always = compacted(always + (entry,), budget=budget)
                    sometimes = sometimes + (entry,)
                    if chance.random() < 0.3:
                        sometimes = compacted(sometimes, budget=budget)
                once = compacted(log, budget=budget)
                self.assertEqual(once, always)
                self.assertEqual(once, compacted(sometimes, budget=budget))
                self.assertEqual(once, compacted(once, budget=budget))
                self.assertIs(True, is_compact(once, budget=budget))

    def test_a_larger_budget_before_a_smaller_one(self):
        chance = random.Random(22)
        for log in [some_log(chance) for _ in range(150)] + [busy_log()]:
            for larger in (999, 101, 5, 3, 1):
                first = compacted(log, budget=larger)
                for smaller in (101, 4, 3, 2, 1, 0):
                    if smaller <= larger:
                        self.assertEqual(compacted(log, budget=smaller), compacted(first, budget=smaller))


if __name__ == "__main__":
    unittest.main()
