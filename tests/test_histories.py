"""Tests of neverwas.histories: [7.1] to [7.4], what [0.2] guarantees of them and, as far as it reaches, [0.3]."""

import random
import unittest

from helper import ANY_VALUES, NO_BUDGETS, NO_IDS, Checks, busy_log, defined_compacted, defined_is_history
from helper import defined_open_gaps, defined_triples, prices_of, retractions_of, same, situations, some_log
from helper import targets_of, with_entry
from neverwas.compaction import compacted
from neverwas.dependencies import dependencies
from neverwas.errors import InvalidBudget, InvalidLog, NotCompact, SealedWrite, UnknownCell, UnknownId
from neverwas.histories import certainty, differs, is_history, open_gaps
from neverwas.paths import all_costs

W3 = ("write", "w3", (), ("a",), 4)
W4 = ("write", "w4", ("a",), ("b",), 1)
THREE = (W3, W4, ("query", "q1", ("b",)))
ONE = (("write", "w2", (), ("a",), 4),)
TWO = (("write", "w1", (), ("a",), 2), ("write", "w2", (), ("a",), 4))
# With the budget 3: retracting w2 and w3 opens gaps before them, but not at the query or behind it.
LOG = (
    ("write", "w1", (), ("a",), 1),
    ("query", "q1", ("a", "b")),
    ("write", "w2", ("c",), ("a",), 2),
    ("write", "s1", (), ("c",), None),
    ("write", "w3", ("a", "c"), ("a", "b"), 2),
    ("query", "q2", ("a", "c")),
    ("write", "w4", ("b",), ("c",), 3),
)
NO_LOGS = [value for value in ANY_VALUES if not same(value, ())] + [list(THREE), THREE + THREE[:1], THREE[0]]
# Each function with the arguments behind the log; all but is_history take a target first.
TARGET_CALLS = ((open_gaps, ()), (certainty, ()), (differs, (THREE,)))
CALLS = tuple((call, (("q1", "b"),) + others) for call, others in TARGET_CALLS) + ((is_history, (THREE,)),)


def without(log, *ids):
    return tuple(entry for entry in log if entry[1] not in ids)


def inserted(cell, entry_id="new", price=1, reads=()):
    return ("write", entry_id, reads, (cell,), price)


class Examples(unittest.TestCase):
    def test_open_gaps(self):
        self.assertEqual([("w4", "a", 0)], open_gaps(THREE, ("q1", "b"), budget=0, retracted=["w3"]))
        self.assertEqual(0, all_costs(with_entry(THREE, 1, inserted("a")))["new"])

    def test_certainty(self):
        self.assertTrue(same(("certain",), certainty(THREE, ("q1", "b"), budget=0)))

    def test_is_history(self):
        self.assertIs(True, is_history(ONE, TWO, budget=3, retracted=["w9"]))

    def test_differs(self):
        self.assertIs(False, differs(ONE, ("", "a"), TWO, budget=3))
        self.assertIs(True, differs(ONE, ("", "a"), TWO, budget=3, retracted=["w2"]))


class Errors(Checks, unittest.TestCase):
    def test_invalid_log_comes_first(self):
        for call, others in CALLS:
            for log in NO_LOGS:
                for budget, retracted in ((0, []), (None, None), (10, ["q1"]), (1000, [""])):
                    self.check_error(InvalidLog, None, None, call, log, *others, budget=budget, retracted=retracted)

    def test_then_the_budget(self):
        for call, others in CALLS:
            for value in NO_BUDGETS:
                for retracted in ([], None, ["q1"]):
                    self.check_error(InvalidBudget, None, None, call, THREE, *others, budget=value, retracted=retracted)
        for call, others in TARGET_CALLS:
            self.check_error(InvalidBudget, None, None, call, TWO, None, *others, budget=-1, retracted=[None])

    def test_then_the_retracted_ids(self):
        sealed = THREE + (("write", "s1", (), ("a",), None),)
        for call, others in CALLS:
            for log in (sealed, TWO + sealed):
                for value in ANY_VALUES:
                    if not isinstance(value, (list, tuple)):
                        self.check_error(UnknownId, "entry_id", value, call, log, *others, budget=0, retracted=value)
                for value in NO_IDS + ["q1"]:
                    retracted = ["w9", "w3", value, "s1"]
                    self.check_error(UnknownId, "entry_id", value, call, log, *others, budget=0, retracted=retracted)
                for retracted in (["s1", "q1"], ("w3", "w3", "s1")):
                    self.check_error(SealedWrite, "entry_id", "s1", call, log, *others, budget=0, retracted=retracted)
        for call, others in TARGET_CALLS:
            self.check_error(UnknownId, "entry_id", "q1", call, THREE, None, *others, budget=0, retracted=["q1"])

    def test_then_the_target(self):
        for call, others in TARGET_CALLS:
            for log in (THREE, TWO + THREE):
                for value in ANY_VALUES + [["", "a"], ("", "a", "b"), ("q1",)]:
                    self.check_error(UnknownId, "entry_id", value, call, log, value, *others, budget=0)
                for value in NO_IDS + ["w3", "w4", "q9"]:
                    if value != "":
                        self.check_error(UnknownId, "entry_id", value, call, log, (value, "A"), *others, budget=0)
                for value in ANY_VALUES + ["c"]:
                    self.check_error(UnknownCell, "cell", value, call, log, ("q1", value), *others, budget=0)
                    if value not in ("a", "abcd", "c"):
                        self.check_error(UnknownCell, "cell", value, call, log, ("", value), *others, budget=0)

    def test_then_logs_that_are_not_compact(self):
        for budget in (0, 3):
            for call, others in TARGET_CALLS:
                self.check_error(NotCompact, None, None, call, TWO, ("", "b"), *others, budget=budget)
            for value in ANY_VALUES + [TWO, ONE]:
                self.check_error(NotCompact, None, None, is_history, TWO, value, budget=budget)
                self.check_error(NotCompact, None, None, differs, TWO, ("", "a"), value, budget=budget)
        for call, others in CALLS:
            log = THREE + (("write", "w5", (), ("a",), 11),)
            self.check_error(NotCompact, None, None, call, without(log, "w4"), *others)
            call(without(log, "w3", "w4"), *others)

    def test_the_default_budget(self):
        ten = (("write", "w3", (), ("a",), 10),)
        self.assertEqual([], open_gaps(ten, ("", "a"), retracted=["w3"]))
        self.assertEqual(("certain",), certainty(ten, ("", "a"), retracted=["w3"]))
        self.assertIs(False, is_history(ten, TWO[:1] + ten))
        eleven = (("write", "w3", (), ("a",), 11),)
        self.assertEqual([("", "a", 0)], open_gaps(eleven, ("", "a"), retracted=["w3"]))
        self.assertEqual("uncertain", certainty(eleven, ("", "a"), retracted=["w3"])[0])
        self.assertIs(True, is_history(eleven, TWO[:1] + eleven))
        self.assertIs(True, differs(eleven, ("", "a"), TWO[:1] + eleven, retracted=["w3"]))

    def test_budget_and_retracted_are_keyword_only(self):
        for call, others in CALLS:
            with self.assertRaises(TypeError):
                call(THREE, *others, 3)

    def test_the_documented_names(self):
        others = {"budget": 0, "retracted": ("w3",)}
        self.assertEqual([("w4", "a", 0)], open_gaps(target=("q1", "b"), log=THREE, **others))
        self.assertEqual("uncertain", certainty(target=("q1", "b"), log=THREE, **others)[0])
        history = with_entry(THREE, 0, inserted("a"))
        self.assertIs(True, is_history(value=history, log=THREE, **others))
        self.assertIs(True, differs(value=history, target=("q1", "b"), log=THREE, **others))


class OpenGaps(Checks, unittest.TestCase):
    def test_each_position(self):
        self.assertEqual(LOG, compacted(LOG, budget=3))
        self.assertEqual([], open_gaps(LOG, ("q2", "a"), budget=3))
        self.assertEqual([], open_gaps(LOG, ("q2", "a"), budget=3, retracted=["w3"]))
        # Behind q1 a write of a costs 2 to w3, which reads it; before q1 nothing.
        self.assertEqual([], open_gaps(LOG, ("q2", "a"), budget=3, retracted=["w2", "w3"]))
        # Of b, w3 and the end are readers of the write of w3; before w3 a write of b has to go past it.
        self.assertEqual([], open_gaps(LOG, ("", "b"), budget=3, retracted=["w3"]))
        log = compacted(LOG, budget=1)
        self.assertEqual(LOG, log)
        self.assertEqual(
            [("w4", "b", 2), ("w4", "b", 3), ("w4", "b", 4)], open_gaps(log, ("", "c"), budget=1, retracted=["w3"]),
        )

    def test_in_the_order_of_the_triples(self):
        log = (
            ("query", "q0", ("a", "b")),
            ("write", "w1", (), ("a",), 5),
            ("write", "w2", (), ("b",), 5),
            ("write", "w3", ("a", "b"), ("a", "c"), 1),
            ("query", "q1", ("c",)),
        )
        self.assertEqual(log, compacted(log, budget=1))
        retracted = ["w2", "w1", "w1", "gone"]
        expected = [("w3", "a", 1), ("w3", "b", 1), ("w3", "b", 2)]
        self.assertTrue(same(expected, open_gaps(log, ("q1", "c"), budget=1, retracted=retracted)))
        self.assertTrue(same(expected[:1], open_gaps(log, ("q1", "c"), budget=1, retracted=["w1"])))
        self.assertTrue(same(expected[1:], open_gaps(log, ("q1", "c"), budget=1, retracted=("w2",))))
        self.assertEqual([], open_gaps(log, ("q1", "c"), budget=5, retracted=retracted))

    def test_the_end_and_a_cell_that_occurs_nowhere(self):
        for log in ((), LOG, ONE):
            for budget in (3, 999):
                self.assertEqual([], open_gaps(log, ("", "zzzz"), budget=budget))
                self.assertEqual([], open_gaps(log, ("", "zzzz"), budget=budget, retracted=["w2", "gone"]))

    def test_budgets_0_and_999(self):
        log = tuple(("write", f"w{number}", (), ("a",), 99) for number in range(11)) + (inserted("a", "last", 9),)
        gone = list(prices_of(log))
        self.assertEqual([], open_gaps(log, ("", "a"), budget=999, retracted=gone[:1]))
        self.assertEqual([("", "a", 0)], open_gaps(log, ("", "a"), budget=999, retracted=gone))
        log = (inserted("a", "w1", 1),)
        self.assertEqual([("", "a", 0)], open_gaps(log, ("", "a"), budget=0, retracted=["w1"]))
        self.assertEqual([], open_gaps(log, ("", "a"), budget=1, retracted=["w1"]))

    def test_sealed_writes_let_nothing_pass(self):
        log = (("write", "w1", ("a",), ("b",), 1), ("write", "s1", ("b",), ("a", "b"), None))
        self.assertEqual(log, compacted(log, budget=0))
        self.assertEqual([("s1", "b", 0)], open_gaps(log, ("", "a"), budget=0, retracted=["w1"]))
        # A sealed write in front of the source is no gap's business: gaps are behind the source.
        self.assertEqual([], open_gaps(log[1:], ("", "a"), budget=0))

    def test_many_situations_against_the_definition(self):
        counts = {True: 0, False: 0}
        for log, budget, target, retracted in situations(51, 500):
            gaps = open_gaps(log, target, budget=budget, retracted=retracted)
            self.assertTrue(same(defined_open_gaps(log, target, budget, retracted), gaps))
            counts[bool(gaps)] += 1
        self.assertGreater(min(counts.values()), 60)

    def test_full_logs(self):
        log = busy_log(99)
        ids = list(prices_of(log))
        for budget, target, retracted in ((99, ("", "a"), ids[10:30]), (999, ("q17", "c"), ids)):
            kept = compacted(log, budget=budget)
            expected = defined_open_gaps(kept, target, budget, retracted)
            self.assertEqual(expected, open_gaps(kept, target, budget=budget, retracted=retracted))

    def test_each_list_is_new(self):
        self.check_fresh(open_gaps, THREE, ("q1", "b"), budget=0, retracted=["w3"])
        self.check_fresh(open_gaps, THREE, ("q1", "b"), budget=0)


class Certainty(Checks, unittest.TestCase):
    def test_uncertain(self):
        kind, history = certainty(THREE, ("q1", "b"), budget=0, retracted=["w3"])
        self.assertEqual("uncertain", kind)
        self.assertIs(True, defined_is_history(THREE, history, 0, ["w3"]))
        self.assertNotEqual(
            dependencies(THREE, ("q1", "b"), retracted=["w3"]), dependencies(history, ("q1", "b"), retracted=["w3"]),
        )

    def test_many_situations(self):
        counts = {"certain": 0, "uncertain": 0}
        for log, budget, target, retracted in situations(52, 500):
            found = certainty(log, target, budget=budget, retracted=retracted)
            counts[found[0]] += 1
            if found[0] == "certain":
                self.assertTrue(same(("certain",), found))
                self.assertEqual([], defined_open_gaps(log, target, budget, retracted))
            else:
                self.assertEqual((tuple, 2), (type(found), len(found)))
                self.assertIs(True, defined_is_history(log, found[1], budget, retracted))
                self.assertIs(True, is_history(log, found[1], budget=budget, retracted=retracted))
                self.assertIs(True, differs(log, target, found[1], budget=budget, retracted=retracted))
                self.assertNotEqual(
                    defined_triples(log, target, retracted)[0], defined_triples(found[1], target, retracted)[0],
                )
        self.assertGreater(min(counts.values()), 60)

    def test_certain_whatever_single_write_is_inserted(self):
        # The document's own wording: a write more, of any cells, at any position.
        chance = random.Random(53)
        counts = {True: 0, False: 0}
        for log, budget, target, retracted in situations(54, 200, 6):
            certain = certainty(log, target, budget=budget, retracted=retracted) == ("certain",)
            differ = False
            for position in range(len(log) + 1):
                for cell in "abcde":
                    reads = tuple(sorted(chance.sample("abcdef", chance.randint(0, 2))))
                    value = with_entry(log, position, inserted(cell, "new", chance.choice([1, 99, None]), reads))
                    if defined_is_history(log, value, budget, retracted):
                        there = defined_triples(value, target, retracted)[0]
                        differ = differ or there != defined_triples(log, target, retracted)[0]
            self.assertIs(certain, not differ, (log, target, budget, retracted))
            counts[certain] += 1
        self.assertGreater(min(counts.values()), 10)

    def test_what_is_certain_holds_in_every_complete_log(self):
        chance = random.Random(55)
        counts = {"certain": 0, "uncertain": 0}
        for _ in range(60):
            full = some_log(chance, 8)
            budget = chance.choice([0, 1, 2, 4])
            log = compacted(full, budget=budget)
            for price, retracted in chance.sample(retractions_of(log), min(20, len(retractions_of(log)))):
                for target in targets_of(log):
                    kind = certainty(log, target, budget=budget, retracted=retracted)[0]
                    self.assertIs(True, is_history(log, full, budget=budget, retracted=retracted))
                    counts[kind] += 1
                    if kind == "certain":
                        expected = dependencies(full, target, retracted=retracted)
                        self.assertEqual(expected, dependencies(log, target, retracted=retracted))
                    if price <= budget:
                        self.assertEqual("certain", kind)
        self.assertGreater(min(counts.values()), 100)

    def test_ids_that_are_taken_or_retracted(self):
        taken = [f"x{number}" for number in range(55)]
        log = tuple(("query", entry_id, ("b",)) for entry_id in taken) + (("write", "w", (), ("a",), 5),)
        retracted = [f"x{number}" for number in range(55, 190)] + ["w", "a", "a0", "new"]
        kind, history = certainty(log, ("", "a"), budget=0, retracted=retracted)
        self.assertEqual(("uncertain", 57), (kind, len(history)))
        self.assertIs(True, is_history(log, history, budget=0, retracted=retracted))

    def test_sixty_entries_kept(self):
        log = tuple(("query", f"q{number}", ("b",)) for number in range(59)) + (("write", "w", (), ("a",), 5),)
        kind, history = certainty(log, ("", "a"), budget=0, retracted=["w"])
        self.assertEqual(("uncertain", 61), (kind, len(history)))
        self.assertIs(True, defined_is_history(log, history, 0, ["w"]))
        self.assertIs(True, is_history(log, history, budget=0, retracted=["w"]))
        self.assertIs(True, differs(log, ("", "a"), history, budget=0, retracted=["w"]))

    def test_it_is_steady(self):
        for retracted in ([], ["w3"]):
            self.check_steady(certainty, THREE, ("q1", "b"), budget=0, retracted=retracted)


class Histories(Checks, unittest.TestCase):
    def check(self, expected, log, value, budget=0, retracted=()):
        self.assertIs(expected, is_history(log, value, budget=budget, retracted=retracted), value)

    def test_the_log_itself(self):
        for log, budget, _, retracted in situations(56, 100):
            self.check(True, log, log, budget, retracted)
            self.assertIs(False, differs(log, ("", "a"), log, budget=budget, retracted=retracted))

    def test_any_value(self):
        for value in ANY_VALUES + [list(THREE), THREE[0], (THREE,), {"w3": W3}, THREE + (None,), THREE + ((),)]:
            for log, target in ((THREE, ("q1", "b")), ((W3,), ("", "a"))):
                self.check(False, log, value)
                self.assertIs(False, differs(log, target, value, budget=0))
        self.check(False, (), [])
        self.check(True, (), ())
        self.check(False, (), ((),))

    def test_entries_of_other_forms(self):
        for entry in (list(inserted("a")), inserted("a")[:4], inserted("A"), inserted("a", "N"), inserted("a", "", 1),
                      inserted("a", price=0), inserted("a", price=True), inserted("a", price=100), ("query",)):
            self.check(False, THREE, with_entry(THREE, 0, entry))
        self.check(True, THREE, with_entry(THREE, 0, inserted("a")))

    def test_other_entries_that_are_kept(self):
        self.check(False, THREE, with_entry(THREE, 1, inserted("a")))
        self.check(False, THREE, THREE + (inserted("a"),))
        self.check(False, ONE, TWO, budget=4)
        self.check(True, ONE, TWO, budget=3)
        self.check(False, (), (inserted("a"),), budget=999)

    def test_entries_of_the_log_that_are_changed_or_missing(self):
        for value in (THREE[:2], THREE[1:], THREE[::-1], (), (W3, W4, ("query", "q1", ("b", "c"))),
                      (W3[:4] + (5,),) + THREE[1:], (W3[:4] + (None,),) + THREE[1:]):
            self.check(False, THREE, value)

    def test_a_write_that_blocks(self):
        log = (("write", "w1", (), ("a",), 1), ("query", "q1", ("a",)))
        self.check(False, log, (log[0], inserted("a"), log[1]), 0)
        # A write that only the deletion of another one explains.
        value = (inserted("a", "n1"), inserted("a", "n2"), log[0], log[1])
        self.check(True, log, value, 0)
        self.check(False, log, value, 1)

    def test_queries(self):
        self.check(False, THREE, THREE + (("query", "q2", ("a",)),))
        self.check(False, (), (("query", "q2", ("a",)),))

    def test_sealed_writes_and_writes_that_read(self):
        for price in (1, 99, None):
            self.check(True, THREE, with_entry(THREE, 0, inserted("a", price=price)))
            self.check(True, THREE, with_entry(THREE, 0, inserted("a", price=price, reads=("a", "b", "zzzz"))))
        value = (inserted("a", "n1", None, ("b",)), inserted("a", "n2", 7, ("a", "b"))) + THREE
        self.check(True, THREE, value)
        self.check(False, THREE, (inserted("c", "n0"),) + value)

    def test_retracted_ids(self):
        value = with_entry(THREE, 0, inserted("a"))
        for retracted in ([], ["gone"], ["w3"], ["w3", "w4", "gone", "w3"], ()):
            self.check(True, THREE, value, 0, retracted)
        for retracted in (["new"], ["gone", "new", "w3"], ("new",)):
            self.check(False, THREE, value, 0, retracted)
            self.assertIs(False, differs(THREE, ("q1", "b"), value, budget=0, retracted=retracted))

    def test_different_ids(self):
        value = with_entry(THREE, 0, inserted("a"))
        self.check(False, THREE, with_entry(value, 0, inserted("a")))
        self.check(False, THREE, with_entry(THREE, 0, inserted("a", "w4")))
        self.check(False, THREE, with_entry(THREE, 0, W3))

    def test_300_and_301_entries(self):
        more = tuple(inserted("a", f"n{number}") for number in range(298))
        for count, expected in ((240, True), (296, True), (297, True), (298, False)):
            value = more[:count] + THREE
            self.check(expected, THREE, value)
            self.assertIs(expected, differs(THREE, ("q1", "b"), value, budget=0, retracted=["w3"]))
            self.check(expected, THREE, more[:count - 9] + (inserted("a", "r", None, ("a", "b")),) + more[290:] + THREE)
        self.check(False, THREE, more[:297] + (inserted("b"),) + THREE[:2])
        log = tuple(("query", f"q{number}", ("b",)) for number in range(59)) + (W3,)
        self.check(True, log, more[:240] + log)
        self.check(False, log, more[:241] + log)

    def test_many_values_against_the_definition(self):
        chance = random.Random(57)
        counts = {}
        for log, budget, target, retracted in situations(58, 400):
            value = log
            gaps = defined_open_gaps(log, target, budget, retracted)
            if gaps and chance.random() < 0.7:
                _, cell, position = chance.choice(gaps)
                value = with_entry(log, position, inserted(cell, "gap"))
            for number in range(chance.randint(0, 2)):
                cells = tuple(sorted(chance.sample("abcde", chance.choice([1, 1, 1, 2]))))
                reads = tuple(sorted(chance.sample("abcdef", chance.randint(0, 2))))
                name = chance.choice([f"n{number}"] * 9 + ["gone", "later"])
                if name not in [entry[1] for entry in value]:
                    price = chance.choice([1, 3, None])
                    value = with_entry(value, chance.randint(0, len(value)), ("write", name, reads, cells, price))
            expected = defined_is_history(log, value, budget, retracted)
            self.check(expected, log, value, budget, retracted)
            other = defined_triples(value, target, retracted)[0] != defined_triples(log, target, retracted)[0]
            found = differs(log, target, value, budget=budget, retracted=retracted)
            self.assertIs(expected and other, found)
            counts[expected, other] = counts.get((expected, other), 0) + 1
        self.assertEqual(4, len(counts))
        self.assertGreater(min(counts.values()), 8)

    def test_every_full_log_is_a_history_of_its_compaction(self):
        chance = random.Random(59)
        for _ in range(200):
            full = some_log(chance, 20)
            for budget in (0, 2, 103):
                log = defined_compacted(full, budget)
                self.check(True, log, full, budget, list(prices_of(log)))
                gone = [name for name in prices_of(full) if name not in prices_of(log)]
                if gone:
                    self.check(False, log, full, budget, gone[:1])


if __name__ == "__main__":
    unittest.main()
