"""Tests of neverwas.edits: [5.1], what [0.2], [1.2] to [4.2] say of edits and, as far as it reaches, [0.3]."""

import random
import unittest

from helper import ANY_VALUES, NO_BUDGETS, NO_IDS, Checks, busy_log, ids_of, prices_of, retractions_of, same
from helper import some_log, targets_of
from neverwas.compaction import compacted
from neverwas.dependencies import dependencies
from neverwas.edits import joined, split_at, with_committed, with_sealed, without_query
from neverwas.errors import DuplicateId, InvalidBudget, InvalidLog, SealedWrite, UnknownId
from neverwas.paths import all_costs, blockers, cheapest_path

LOG = (
    ("write", "w1", (), ("a", "b"), 2),
    ("query", "q1", ("a", "b")),
    ("write", "s1", ("a",), ("c",), None),
    ("write", "w2", ("b", "c"), ("a",), 7),
    ("query", "q2", ("c",)),
    ("write", "w3", (), ("a",), 4),
)
NO_LOGS = [value for value in ANY_VALUES if not same(value, ())] + [list(LOG), LOG + LOG[:1], LOG[0]]
BUDGETS = (0, 2, 5, 101)


def queries(prefix, count):
    return tuple(("query", f"{prefix}{number}", ("a",)) for number in range(count))


def without(log, *ids):
    return tuple(entry for entry in log if entry[1] not in ids)


class Examples(unittest.TestCase):
    def test_joined(self):
        self.assertEqual(
            (("query", "q1", ("a",)), ("query", "q2", ("a",))),
            joined((("query", "q1", ("a",)),), (("query", "q2", ("a",)),)),
        )

    def test_with_sealed(self):
        self.assertEqual(
            (("write", "w1", (), ("a",), None),), with_sealed((("write", "w1", (), ("a",), 2),), "w1"),
        )

    def test_without_query(self):
        self.assertEqual(
            (("query", "q2", ("a",)),), without_query((("query", "q1", ("a",)), ("query", "q2", ("a",))), "q1"),
        )

    def test_with_committed(self):
        log = (("write", "w1", (), ("a",), 2), ("write", "w2", (), ("a",), 4))
        self.assertEqual(((("write", "w1", (), ("a",), 2),), 1), with_committed(log, "w2", budget=5))

    def test_split_at(self):
        self.assertEqual(
            ((("query", "q1", ("a",)),), (("query", "q2", ("a",)),)),
            split_at((("query", "q1", ("a",)), ("query", "q2", ("a",))), 1),
        )


class Joined(Checks, unittest.TestCase):
    def test_one_log_behind_the_other(self):
        for position in range(len(LOG) + 1):
            self.assertEqual(LOG, joined(LOG[:position], LOG[position:]))
        self.assertEqual(LOG[3:] + LOG[:3], joined(LOG[3:], LOG[:3]))
        self.assertEqual((), joined((), ()))
        self.assertEqual(LOG, joined(other=LOG[2:], one=LOG[:2]))

    def test_at_most_60_entries(self):
        for count in (0, 1, 30, 59, 60):
            log = joined(queries("a", count), queries("b", 60 - count))
            self.assertEqual(queries("a", count) + queries("b", 60 - count), log)
        for count, others in ((60, 1), (60, 60), (1, 60), (30, 31), (31, 30), (59, 2)):
            self.check_error(InvalidLog, None, None, joined, queries("a", count), queries("b", others))

    def test_the_first_id_of_the_second_log_that_occurs_in_the_first(self):
        self.check_error(DuplicateId, "entry_id", "w1", joined, LOG, LOG)
        self.check_error(DuplicateId, "entry_id", "w3", joined, LOG, LOG[::-1])
        other = (("query", "q9", ("a",)), ("query", "w2", ("a",)), ("write", "q1", (), ("z",), 1))
        self.check_error(DuplicateId, "entry_id", "w2", joined, LOG, other)
        self.check_error(DuplicateId, "entry_id", "q1", joined, other, LOG)
        self.check_error(DuplicateId, "entry_id", "q1", joined, LOG, other[:1] + other[:0:-1])
        self.check_error(DuplicateId, "entry_id", "q1", joined, LOG[:2], LOG[1:])

    def test_duplicates_come_before_the_number_of_entries(self):
        full = queries("a", 60)
        self.check_error(DuplicateId, "entry_id", "a59", joined, full, queries("b", 59) + full[59:])
        self.check_error(DuplicateId, "entry_id", "a0", joined, queries("a", 60), queries("a", 1))

    def test_values_that_are_no_log(self):
        for value in NO_LOGS + [queries("a", 61)]:
            for other in (LOG, (), value, None):
                self.check_error(InvalidLog, None, None, joined, value, other)
                self.check_error(InvalidLog, None, None, joined, other, value)

    def test_any_value_for_both(self):
        for one in ANY_VALUES:
            for other in ANY_VALUES:
                if not same(one, ()) or not same(other, ()):
                    self.check_error(InvalidLog, None, None, joined, one, other)


class Sealed(Checks, unittest.TestCase):
    def test_the_price_is_none(self):
        for name in ("w1", "w2", "w3"):
            expected = tuple(entry[:4] + (None,) if entry[1] == name else entry for entry in LOG)
            self.assertTrue(same(expected, with_sealed(LOG, name)))
        self.assertEqual(with_sealed(LOG, "w1"), with_sealed(entry_id="w1", log=LOG))

    def test_all_writes_one_after_another(self):
        log = LOG
        for name in ("w2", "w1", "w3"):
            log = with_sealed(log, name)
        self.assertEqual({}, prices_of(log))
        self.assertEqual([entry[:4] for entry in LOG], [entry[:4] for entry in log])

    def test_a_sealed_blocker_bars_the_way(self):
        log = (("write", "w1", (), ("a",), 2), ("write", "w2", (), ("a",), 4))
        self.assertEqual({"w1": 4, "w2": 0}, all_costs(log))
        log = with_sealed(log, "w2")
        self.assertEqual({"w1": None, "w2": 0}, all_costs(log))
        self.assertIsNone(cheapest_path(log, "w1"))
        self.assertEqual(["w2"], blockers(log, "w1", "", "a"))

    def test_sealed_writes(self):
        self.check_error(SealedWrite, "entry_id", "s1", with_sealed, LOG, "s1")
        self.check_error(SealedWrite, "entry_id", "w1", with_sealed, with_sealed(LOG, "w1"), "w1")

    def test_ids_that_are_not_those_of_a_write(self):
        for log in ((), LOG):
            for value in NO_IDS + ["q1", "q2", "w9", LOG[0]]:
                self.check_error(UnknownId, "entry_id", value, with_sealed, log, value)

    def test_invalid_log_comes_first(self):
        for log in NO_LOGS:
            for value in ("w1", "s1", "q1", None):
                self.check_error(InvalidLog, None, None, with_sealed, log, value)


class Queries(Checks, unittest.TestCase):
    def test_the_log_without_this_query(self):
        self.assertEqual(LOG[:1] + LOG[2:], without_query(LOG, "q1"))
        self.assertEqual(LOG[:4] + LOG[5:], without_query(entry_id="q2", log=LOG))
        self.assertEqual((), without_query(LOG[1:2], "q1"))
        self.assertEqual(queries("q", 59), without_query(queries("q", 60), "q59"))

    def test_a_query_that_kept_a_write(self):
        log = (("write", "w1", (), ("a",), 2), ("query", "q1", ("a",)), ("write", "w2", (), ("a",), 99))
        self.assertEqual(log, compacted(log))
        self.assertEqual(log[2:], compacted(without_query(log, "q1")))

    def test_ids_that_are_not_those_of_a_query(self):
        for log in ((), LOG):
            for value in NO_IDS + ["w1", "s1", "w3", "q9", LOG[1]]:
                self.check_error(UnknownId, "entry_id", value, without_query, log, value)

    def test_invalid_log_comes_first(self):
        for log in NO_LOGS:
            for value in ("q1", "w1", "", None):
                self.check_error(InvalidLog, None, None, without_query, log, value)


class Committed(Checks, unittest.TestCase):
    def test_the_log_and_the_budget(self):
        self.assertTrue(same((LOG[1:], 0), with_committed(LOG, "w1", budget=2)))
        self.assertTrue(same((LOG[1:], 997), with_committed(LOG, "w1", budget=999)))
        self.assertTrue(same((LOG[:3] + LOG[4:], 1), with_committed(LOG, "w2", budget=8)))
        self.assertTrue(same((LOG[:5], 5), with_committed(entry_id="w3", budget=9, log=LOG)))

    def test_the_default_budget(self):
        self.assertEqual((LOG[1:], 8), with_committed(LOG, "w1"))
        log = (("write", "w1", (), ("a",), 10), ("write", "w2", (), ("a",), 11))
        self.assertEqual((log[1:], 0), with_committed(log, "w1"))
        self.check_error(InvalidBudget, None, None, with_committed, log, "w2")

    def test_prices_above_the_budget(self):
        for budget in (0, 1, 6):
            self.check_error(InvalidBudget, None, None, with_committed, LOG, "w2", budget=budget)
        self.assertEqual((without(LOG, "w2"), 0), with_committed(LOG, "w2", budget=7))
        log = (("write", "w1", (), ("a",), 99),)
        self.check_error(InvalidBudget, None, None, with_committed, log, "w1", budget=98)
        self.assertEqual(((), 0), with_committed(log, "w1", budget=99))

    def test_as_if_the_write_had_never_existed(self):
        chance = random.Random(23)
        for _ in range(60):
            log = some_log(chance)
            for name in prices_of(log):
                left = with_committed(log, name, budget=999)[0]
                for target in targets_of(log):
                    self.assertEqual(dependencies(log, target, retracted=[name]), dependencies(left, target))

    def test_any_value_that_is_not_a_budget(self):
        for value in NO_BUDGETS:
            for entry_id in ("w1", "s1", "q1", None, "w9"):
                self.check_error(InvalidBudget, None, None, with_committed, LOG, entry_id, budget=value)

    def test_ids_that_are_not_those_of_a_write(self):
        for value in NO_IDS + ["q1", "q2", "w9", LOG[0]]:
            for budget in (0, 10):
                self.check_error(UnknownId, "entry_id", value, with_committed, LOG, value, budget=budget)

    def test_sealed_writes(self):
        for budget in (0, 10, 999):
            self.check_error(SealedWrite, "entry_id", "s1", with_committed, LOG, "s1", budget=budget)

    def test_invalid_log_comes_first(self):
        for log in NO_LOGS:
            for entry_id, budget in (("w1", 10), (None, None), ("s1", 0), ("w1", -1)):
                self.check_error(InvalidLog, None, None, with_committed, log, entry_id, budget=budget)

    def test_the_budget_is_keyword_only(self):
        with self.assertRaises(TypeError):
            with_committed(LOG, "w1", 5)


class Split(Checks, unittest.TestCase):
    def test_every_position(self):
        for log in ((), LOG, queries("q", 60)):
            for position in range(len(log) + 1):
                self.assertTrue(same((log[:position], log[position:]), split_at(log, position)))
        self.assertEqual((LOG[:2], LOG[2:]), split_at(position=2, log=LOG))

    def test_values_that_are_no_position(self):
        for value in ANY_VALUES + [-1, -6, 7, 8, 60, 61, -(10 ** 39), 10 ** 39, "2", [2], (2,)]:
            if same(value, 0) or same(value, 1) or same(value, 2):
                continue
            self.check_error(UnknownId, "entry_id", value, split_at, LOG, value)
        for value in (-1, 1, True, False, None):
            self.check_error(UnknownId, "entry_id", value, split_at, (), value)
        self.check_error(UnknownId, "entry_id", 61, split_at, queries("q", 60), 61)

    def test_the_parts_joined_are_the_log(self):
        for position in range(len(LOG) + 1):
            self.assertEqual(LOG, joined(*split_at(LOG, position)))

    def test_invalid_log_comes_first(self):
        for log in NO_LOGS:
            for position in (0, 1, -1, None, True):
                self.check_error(InvalidLog, None, None, split_at, log, position)


class Commutation(unittest.TestCase):
    """Each edit of an entry that compaction keeps commutes with compaction."""

    def logs(self, seed):
        chance = random.Random(seed)
        return [some_log(chance) for _ in range(150)] + [busy_log(), busy_log(99)]

    def test_with_sealed(self):
        count = 0
        for log in self.logs(24):
            for budget in BUDGETS:
                kept = compacted(log, budget=budget)
                for name in prices_of(kept):
                    count += compacted(with_sealed(kept, name), budget=budget) != kept
                    self.assertEqual(
                        compacted(with_sealed(log, name), budget=budget),
                        compacted(with_sealed(kept, name), budget=budget),
                    )
        self.assertGreater(count, 100)

    def test_without_query(self):
        for log in self.logs(25):
            for budget in BUDGETS:
                kept = compacted(log, budget=budget)
                self.assertEqual(ids_of(log, "query"), ids_of(kept, "query"))
                for name in ids_of(kept, "query"):
                    self.assertEqual(
                        compacted(without_query(log, name), budget=budget),
                        compacted(without_query(kept, name), budget=budget),
                    )

    def test_with_committed(self):
        count = 0
        for log in self.logs(26):
            for budget in BUDGETS:
                kept = compacted(log, budget=budget)
                for name, price in prices_of(kept).items():
                    if price <= budget:
                        one, reduced = with_committed(log, name, budget=budget)
                        other, same_one = with_committed(kept, name, budget=budget)
                        self.assertEqual((budget - price,) * 2, (reduced, same_one))
                        self.assertEqual(compacted(one, budget=reduced), compacted(other, budget=reduced))
                        count += 1
        self.assertGreater(count, 100)

    def test_an_entry_that_compaction_deletes_is_unknown(self):
        for log in self.logs(27)[:60]:
            for budget in BUDGETS:
                kept = compacted(log, budget=budget)
                left = ids_of(kept, "write")
                for name in ids_of(log, "write"):
                    if name not in left:
                        for edit in (with_sealed, with_committed):
                            with self.assertRaises(UnknownId) as caught:
                                edit(kept, name)
                            self.assertEqual(name, caught.exception.entry_id)

    def test_joined(self):
        chance = random.Random(28)
        for _ in range(150):
            parts = [some_log(chance, 8, prefix) for prefix in ("a", "b", "c")]
            for budget in BUDGETS:
                def fold(log):
                    return compacted(log, budget=budget) if chance.random() < 0.6 else log

                expected = compacted(joined(joined(*parts[:2]), parts[2]), budget=budget)
                left = joined(fold(joined(fold(parts[0]), fold(parts[1]))), fold(parts[2]))
                right = joined(fold(parts[0]), fold(joined(fold(parts[1]), fold(parts[2]))))
                self.assertEqual(expected, compacted(left, budget=budget))
                self.assertEqual(expected, compacted(right, budget=budget))

    def test_logs_that_are_compacted_in_pieces(self):
        for log in self.logs(29):
            for budget in BUDGETS:
                expected = compacted(log, budget=budget)
                for position in range(len(log) + 1):
                    one, other = split_at(log, position)
                    one, other = compacted(one, budget=budget), compacted(other, budget=budget)
                    self.assertEqual(expected, compacted(joined(one, other), budget=budget))

    def test_a_write_matters_in_a_piece_if_it_matters_in_the_log(self):
        for log in self.logs(30)[:100]:
            costs = all_costs(log)
            for position in range(len(log) + 1):
                one, other = split_at(log, position)
                for name, cost in all_costs(one).items():
                    if costs[name] is not None:
                        self.assertLessEqual(cost, costs[name])
                for name, cost in all_costs(other).items():
                    self.assertEqual(costs[name], cost)

    def test_what_depends_on_what_after_an_edit(self):
        chance = random.Random(31)
        for _ in range(40):
            log = some_log(chance, 7)
            for budget in (2, 5):
                kept = compacted(log, budget=budget)
                for name, price in prices_of(kept).items():
                    if price <= budget:
                        left, reduced = with_committed(kept, name, budget=budget)
                        for cost, retracted in retractions_of(left):
                            if cost <= reduced:
                                for target in targets_of(log):
                                    self.assertEqual(
                                        dependencies(log, target, retracted=retracted + [name]),
                                        dependencies(left, target, retracted=retracted),
                                    )


if __name__ == "__main__":
    unittest.main()
