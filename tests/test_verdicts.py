"""Tests of neverwas.verdicts: [8.1], [8.2], what [0.2] guarantees of them and, as far as it reaches, [0.3]."""

import itertools
import random
import unittest

from helper import ANY_VALUES, NO_BUDGETS, NO_IDS, Checks, busy_log, defined_is_history, defined_open_gaps
from helper import defined_source, defined_triples, ids_of, prices_of, retractions_of, same, situations, some_log
from helper import targets_of, with_entry
from neverwas.compaction import compacted
from neverwas.dependencies import dependencies, dependency_set
from neverwas.errors import InvalidBudget, InvalidLog, NotCompact, SealedWrite, UnknownCell, UnknownId
from neverwas.histories import certainty, is_history, open_gaps
from neverwas.store import Store
from neverwas.verdicts import closed_path, reachable_positions, verdicts, witnesses

W3 = ("write", "w3", (), ("a",), 4)
W4 = ("write", "w4", ("a",), ("b",), 1)
CHAIN = (("write", "w0", (), ("c",), 1), W3, W4)
TWO = (("write", "w1", (), ("a",), 2), ("write", "w2", (), ("a",), 4))
# The log of the text T of [8.2].
T = (
    ("write", "d", (), ("c",), 1),
    ("query", "qd", ("c",)),
    ("write", "f", (), ("c",), 1),
    ("write", "z", (), ("a",), 1),
    ("query", "q0", ("a",)),
    ("write", "w", (), ("a",), 1),
    ("write", "g", (), ("e",), 1),
    ("query", "q", ("a",)),
)
NO_LOGS = [value for value in ANY_VALUES if not same(value, ())] + [list(T), T + T[:1], T[0]]
ID_CALLS = ((witnesses, "f"), (closed_path, "z"))
TARGET_CALLS = ((verdicts, ()), (reachable_positions, ()), (witnesses, ("f",)), (closed_path, ("z",)))


def defined_set(log, target, retracted):
    return set(defined_triples(log, target, retracted)[1])


def some_histories(chance, log, budget, retracted, count):
    """Return made-up histories, each as a list of entries in which the additional ones have ids that begin with n."""
    found = [log]
    cells = sorted({cell for entry in log for cell in (entry[3] if entry[0] == "write" else ())} | {"e"})
    for _ in range(count):
        value = log
        for number in range(chance.randint(1, 4)):
            position = chance.randint(0, len(value))
            writes = tuple(sorted(chance.sample(cells, min(len(cells), chance.choice([1, 1, 1, 2])))))
            reads = tuple(sorted(chance.sample(cells, min(len(cells), chance.choice([0, 1, 1, 2])))))
            entry = ("write", f"n{number}", reads, writes, chance.choice([1, 50, None]))
            if defined_is_history(log, with_entry(value, position, entry), budget, retracted):
                value = with_entry(value, position, entry)
        found.append(value)
    return found


def defined_reach(log, target, budget, retracted):
    """Return the writes and the positions from which reads lead to the target in some history, by trying all reads."""
    cells = sorted({cell for entry in log if entry[0] == "write" for cell in entry[3]})
    positions = {entry[1]: position for position, entry in enumerate(log)}
    positions[""] = len(log)
    hidden = set()
    for position, cell in itertools.product(range(len(log) + 1), cells):
        if defined_is_history(log, with_entry(log, position, ("write", "n", (), (cell,), 1)), budget, retracted):
            hidden.add((position, cell))
    reads = [(positions[target[0]], target[1])]
    found = set()
    for place, cell in reads:
        source = defined_source(log, place, cell, retracted)
        first = 0 if source is None else positions[source] + 1
        new = [position for position in range(first, place + 1) if (position, cell) in hidden]
        new += [] if source is None else [source]
        for name in new:
            if name not in found:
                found.add(name)
                if isinstance(name, int):
                    reads += [(name, read) for read in cells]
                else:
                    reads += [(positions[name], read) for read in log[positions[name]][2]]
    return found


def log_position(log, value, entry_id):
    """Return the position of the log at which a history has this additional entry."""
    kept = [entry[1] for entry in log]
    ids = [entry[1] for entry in value]
    return len([name for name in ids[:ids.index(entry_id)] if name in kept])


class Examples(unittest.TestCase):
    def test_witnesses(self):
        one, other = witnesses(CHAIN, ("", "b"), "w0", budget=0, retracted=["w3"])
        self.assertIn("w0", dependency_set(one, ("", "b"), retracted=["w3"]))
        self.assertNotIn("w0", dependency_set(other, ("", "b"), retracted=["w3"]))

    def test_closed_path(self):
        self.assertTrue(same([("", "b"), ("w4", "a")], closed_path((W3, W4), ("", "b"), "w3", budget=0)))

    def test_the_log_of_8_2(self):
        found = verdicts(T, ("q", "a"), budget=0, retracted=["w"])
        self.assertTrue(same({"d": "sometimes", "f": "sometimes", "z": "sometimes", "g": "never"}, found))
        self.assertTrue(same([0, 1, 2, 3, 4, 5], reachable_positions(T, ("q", "a"), budget=0, retracted=["w"])))
        self.assertEqual([("q", "a", 5)], defined_open_gaps(T, ("q", "a"), 0, ["w"]))


class Errors(Checks, unittest.TestCase):
    def test_invalid_log_comes_first(self):
        for call, others in TARGET_CALLS:
            for log in NO_LOGS:
                for target, budget, retracted in ((("q", "a"), 0, []), (None, None, None), (("q", "b"), 9, ["q"])):
                    self.check_error(
                        InvalidLog, None, None, call, log, target, *others, budget=budget, retracted=retracted,
                    )

    def test_then_the_budget(self):
        for call, others in TARGET_CALLS:
            for value in NO_BUDGETS:
                for log, target, retracted in ((T, ("q", "a"), []), (T, None, ["q"]), (TWO, ("", "a"), None)):
                    self.check_error(
                        InvalidBudget, None, None, call, log, target, *others, budget=value, retracted=retracted,
                    )

    def test_then_the_retracted_ids(self):
        sealed = T + (("write", "s1", (), ("a",), None),)
        for call, others in TARGET_CALLS:
            for log, target in ((sealed, ("q", "a")), (sealed, None), (TWO + sealed, ("q", "a"))):
                for value in ANY_VALUES:
                    if not isinstance(value, (list, tuple)):
                        self.check_error(
                            UnknownId, "entry_id", value, call, log, target, *others, budget=0, retracted=value,
                        )
                for value in NO_IDS + ["q0"]:
                    retracted = ("gone", "w", value, "s1")
                    self.check_error(
                        UnknownId, "entry_id", value, call, log, target, *others, budget=0, retracted=retracted,
                    )
                self.check_error(
                    SealedWrite, "entry_id", "s1", call, log, target, *others, budget=0, retracted=["s1", "q0"],
                )

    def test_then_the_target(self):
        for call, others in TARGET_CALLS:
            for log in (T, TWO + T):
                for value in ANY_VALUES + [["q", "a"], ("q", "a", "z"), ("q",)]:
                    self.check_error(UnknownId, "entry_id", value, call, log, value, *others, budget=0)
                for value in NO_IDS + ["z", "w", "q9"]:
                    if value != "":
                        self.check_error(UnknownId, "entry_id", value, call, log, (value, "A"), *others, budget=0)
                for value in ANY_VALUES + ["b", "A"]:
                    if value not in ("a",):
                        self.check_error(UnknownCell, "cell", value, call, log, ("q", value), *others, budget=0)
                    if value not in ("a", "b", "abcd"):
                        self.check_error(UnknownCell, "cell", value, call, log, ("", value), *others, budget=0)

    def test_then_logs_that_are_not_compact(self):
        for call, others in TARGET_CALLS:
            self.check_error(NotCompact, None, None, call, TWO, ("", "a"), *others, budget=3)
            self.check_error(NotCompact, None, None, call, TWO, ("", "zzzz"), *others, budget=0, retracted=["w2"])
        for call, _ in ID_CALLS:
            for value in NO_IDS + ["w1", "w2", "w9"]:
                self.check_error(NotCompact, None, None, call, TWO, ("", "a"), value, budget=3)

    def test_then_the_entry(self):
        verdict_of = verdicts(T, ("q", "a"), budget=0, retracted=["w"])
        values = NO_IDS + ["q", "qd", "w", "g", "w9", "x0", ("q", "a")] + list(range(10))
        for call, wanted in ((witnesses, "sometimes"), (closed_path, "always")):
            for value in values + [name for name, verdict in verdict_of.items() if verdict != wanted]:
                self.check_error(
                    UnknownId, "entry_id", value, call, T, ("q", "a"), value, budget=0, retracted=["w"],
                )
        for value in values + ["d", "f", "w"]:
            self.check_error(UnknownId, "entry_id", value, witnesses, T, ("q0", "a"), value, budget=0)
            self.check_error(UnknownId, "entry_id", value, closed_path, T, ("q0", "a"), value, budget=0)
        self.check_error(UnknownId, "entry_id", "z", witnesses, T, ("q0", "a"), "z", budget=0)
        self.assertEqual([("q0", "a")], closed_path(T, ("q0", "a"), "z", budget=0))

    def test_the_default_budget(self):
        for price, verdict, positions in ((10, "always", []), (11, "sometimes", [0])):
            log = (("write", "w3", (), ("a",), price), ("write", "w4", ("a",), ("b",), 1))
            log = (("write", "w0", (), ("c",), 1),) + log
            expected = {"w0": "sometimes" if positions else "never", "w4": "always"}
            self.assertEqual(expected, verdicts(log, ("", "b"), retracted=["w3"]))
            expected = [0, 1] if positions else []
            self.assertEqual(expected, reachable_positions(log, ("", "b"), retracted=["w3"]))
            self.assertEqual([("", "b")], closed_path(log, ("", "b"), "w4", retracted=["w3"]))
            if positions:
                self.assertEqual(log, witnesses(log, ("", "b"), "w0", retracted=["w3"])[1])

    def test_budget_and_retracted_are_keyword_only(self):
        for call, others in TARGET_CALLS:
            with self.assertRaises(TypeError):
                call(T, ("q", "a"), *others, 0)

    def test_the_documented_names(self):
        others = {"target": ("q", "a"), "log": T, "retracted": ("w",), "budget": 0}
        self.assertEqual("sometimes", verdicts(**others)["z"])
        self.assertEqual(6, len(reachable_positions(**others)))
        self.assertEqual(2, len(witnesses(entry_id="z", **others)))
        self.assertEqual([("q", "a")], closed_path(log=T, target=("q", "a"), entry_id="w", budget=0, retracted=()))


class Verdicts(Checks, unittest.TestCase):
    def test_nothing_retracted(self):
        for log in (T, CHAIN, busy_log()):
            for target in targets_of(log):
                for budget in (2, 999):
                    found = verdicts(log, target, budget=budget)
                    depends = dependency_set(log, target)
                    self.assertEqual(ids_of(log, "write"), list(found))
                    for name, verdict in found.items():
                        self.assertEqual("always" if name in depends else "never", verdict)
                    self.assertEqual([], reachable_positions(log, target, budget=budget))

    def test_the_writes_that_are_not_retracted_in_log_order(self):
        self.assertEqual(["w0", "w4"], list(verdicts(CHAIN, ("", "b"), budget=0, retracted=["w3", "w3", "gone"])))
        self.assertEqual({}, verdicts((), ("", "zzzz"), budget=0))
        self.assertEqual({}, verdicts((W3,), ("", "a"), budget=0, retracted=["w3"]))

    def test_sealed_writes(self):
        log = (("write", "s1", (), ("c",), None), W3, ("write", "s2", ("a",), ("b",), None))
        found = verdicts(log, ("", "b"), budget=0, retracted=["w3"])
        self.assertEqual({"s1": "sometimes", "s2": "always"}, found)

    def test_in_a_part_of_the_histories_only_one_of_two_ways_leads_there(self):
        # w1 is read by w3, whose place may be taken, and by w2, whose may not.
        log = (
            ("write", "w1", (), ("a",), 1),
            ("query", "q0", ("b",)),
            ("write", "w2", (), ("b",), 7),
            ("write", "w3", ("a", "b"), ("c",), 1),
        )
        self.assertEqual({"w1": "always", "w3": "always"}, verdicts(log, ("", "c"), budget=0, retracted=["w2"]))
        self.assertEqual([("", "c"), ("w3", "a")], closed_path(log, ("", "c"), "w1", budget=0, retracted=["w2"]))
        # An additional write before w2 may read a.
        self.assertEqual([1, 2], self.positions(log, ("", "c"), 0, ["w2"])[-2:])

    def positions(self, log, target, budget, retracted):
        found = reachable_positions(log, target, budget=budget, retracted=retracted)
        self.assertEqual(sorted(set(found)), found)
        return found

    def test_an_additional_write_that_only_an_additional_write_reads(self):
        self.assertEqual([0, 1, 2, 3, 4, 5], self.positions(T, ("q", "a"), 0, ["w"]))
        # Without g no write may stand in the cell e unseen, and d is out of reach.
        log = T[:6] + T[7:]
        found = verdicts(log, ("q", "a"), budget=0, retracted=["w"])
        self.assertEqual({"d": "never", "f": "sometimes", "z": "sometimes"}, found)
        self.assertEqual([5], self.positions(log, ("q", "a"), 0, ["w"]))

    def test_made_up_histories(self):
        chance = random.Random(61)
        counts = {"always": 0, "sometimes": 0, "never": 0}
        for log, budget, target, retracted in situations(62, 400):
            found = verdicts(log, target, budget=budget, retracted=retracted)
            positions = self.positions(log, target, budget, retracted)
            for verdict in found.values():
                counts[verdict] += 1
            for value in some_histories(chance, log, budget, retracted, 12):
                depends = defined_set(value, target, retracted)
                for name, verdict in found.items():
                    self.assertIn(verdict, ("always", "sometimes", "never"))
                    if verdict != "sometimes":
                        self.assertIs(verdict == "always", name in depends, (log, value))
                for name in depends - set(ids_of(log, "write")):
                    self.assertIn(log_position(log, value, name), positions)
        self.assertGreater(min(counts.values()), 60)

    def test_all_reads_that_histories_may_have(self):
        for log, budget, target, retracted in situations(69, 200, 20):
            reach = defined_reach(log, target, budget, retracted)
            found = verdicts(log, target, budget=budget, retracted=retracted)
            self.assertEqual(reach & set(found), {name for name, verdict in found.items() if verdict != "never"})
            expected = sorted(name for name in reach if isinstance(name, int))
            self.assertEqual(expected, self.positions(log, target, budget, retracted))

    def test_all_small_histories(self):
        # The document's own wording: up to two additional writes at all positions.
        compared = 0
        for log, budget, target, retracted in situations(63, 300, 5):
            live = [name for name in ids_of(log, "write") if name not in retracted]
            if len(log) < 2 or not defined_open_gaps(log, target, budget, retracted):
                continue
            compared += 1
            seen, always, positions = set(), set(live), set()
            for value in self.small_histories(log, budget, retracted):
                depends = defined_set(value, target, retracted)
                seen |= depends
                always &= depends
                positions |= {log_position(log, value, name) for name in depends if name in ("n0", "n1")}
            found = verdicts(log, target, budget=budget, retracted=retracted)
            reachable = self.positions(log, target, budget, retracted)
            self.assertTrue(positions <= set(reachable))
            for name in live:
                if found[name] == "always":
                    self.assertIn(name, always)
                if found[name] == "never":
                    self.assertNotIn(name, seen)
            if len(log) <= 3:
                # In logs so short, two additional writes do all that more of them can do.
                self.assertEqual(sorted(positions), reachable)
                expected = {name: "always" if name in always else "never" for name in live}
                expected.update({name: "sometimes" for name in seen - always if name in live})
                self.assertEqual(expected, found)
        self.assertGreater(compared, 25)

    def small_histories(self, log, budget, retracted):
        """Return all histories with up to two additional writes, which read and write one cell each."""
        cells = sorted({cell for entry in log if entry[0] == "write" for cell in entry[3]})
        found = [log]
        for count in (0, 1):
            for value in list(found):
                for position, read, cell in itertools.product(range(len(value) + 1), cells + [None], cells):
                    entry = ("write", f"n{count}", (read,) if read else (), (cell,), 1)
                    longer = with_entry(value, position, entry)
                    if defined_is_history(log, longer, budget, retracted):
                        found.append(longer)
        return found

    def test_the_verdicts_hold_in_the_complete_log(self):
        chance = random.Random(64)
        counts = {"always": 0, "sometimes": 0, "never": 0}
        for _ in range(80):
            full = some_log(chance, 14)
            budget = chance.choice([0, 1, 2, 4])
            log = compacted(full, budget=budget)
            retracted = [name for name in prices_of(log) if chance.random() < 0.5] + ["gone"]
            for target in targets_of(log):
                found = verdicts(log, target, budget=budget, retracted=retracted)
                depends = dependency_set(full, target, retracted=retracted)
                positions = reachable_positions(log, target, budget=budget, retracted=retracted)
                for name, verdict in found.items():
                    counts[verdict] += 1
                    if verdict != "sometimes":
                        self.assertIs(verdict == "always", name in depends)
                for name in depends:
                    if name not in found:
                        self.assertIn(log_position(log, full, name), positions)
        self.assertGreater(min(counts.values()), 100)

    def test_within_the_budget_all_is_certain(self):
        chance = random.Random(65)
        for _ in range(50):
            budget = chance.choice([0, 1, 3, 6, 101])
            log = compacted(some_log(chance, 9), budget=budget)
            for price, retracted in chance.sample(retractions_of(log), min(8, len(retractions_of(log)))):
                for target in targets_of(log):
                    verdict_set = set(verdicts(log, target, budget=budget, retracted=retracted).values())
                    certain = certainty(log, target, budget=budget, retracted=retracted) == ("certain",)
                    self.assertIs(certain, "sometimes" not in verdict_set and not reachable_positions(
                        log, target, budget=budget, retracted=retracted,
                    ))
                    if price <= budget:
                        self.assertIs(True, certain)

    def test_where_a_store_is_exact_all_is_certain(self):
        chance = random.Random(66)
        counts = {True: 0, False: 0}
        for _ in range(60):
            store = Store(chance.choice([0, 1, 2, 4, 8]))
            for entry in some_log(chance):
                store.add(entry)
                if entry[0] == "write" and entry[4] is not None and chance.random() < 0.3:
                    store.retract(entry[1])
            for target in targets_of(store.log()):
                exact, triples = store.dependencies(target)
                others = {"budget": store.budget(), "retracted": store.retracted()}
                uncertain = certainty(store.log(), target, **others) != ("certain",)
                if exact:
                    found = verdicts(store.log(), target, **others)
                    self.assertIs(False, uncertain)
                    self.assertEqual([], reachable_positions(store.log(), target, **others))
                    for name, verdict in found.items():
                        self.assertEqual("always" if name in [row[2] for row in triples] else "never", verdict)
                counts[exact] += 1
        self.assertGreater(min(counts.values()), 50)

    def test_each_dict_and_list_is_new(self):
        others = {"budget": 0, "retracted": ["w"]}
        self.check_fresh(verdicts, T, ("q", "a"), **others)
        self.check_fresh(reachable_positions, T, ("q", "a"), **others)
        self.check_fresh(closed_path, T, ("q0", "a"), "z", **others)
        for name in "dfz":
            self.check_steady(witnesses, T, ("q", "a"), name, **others)


class Witnesses(Checks, unittest.TestCase):
    def check_witnesses(self, log, target, name, budget, retracted):
        found = witnesses(log, target, name, budget=budget, retracted=retracted)
        self.assertEqual((tuple, 2), (type(found), len(found)))
        for value in found:
            self.assertIs(True, is_history(log, value, budget=budget, retracted=retracted), value)
            self.assertIs(True, defined_is_history(log, value, budget, retracted), value)
        self.assertIn(name, defined_set(found[0], target, retracted))
        self.assertNotIn(name, defined_set(found[1], target, retracted))
        return found

    def test_the_log_of_8_2(self):
        for name in "dfz":
            self.check_witnesses(T, ("q", "a"), name, 0, ["w"])

    def test_many_situations(self):
        count = 0
        for log, budget, target, retracted in situations(67, 500, 25):
            for name, verdict in verdicts(log, target, budget=budget, retracted=retracted).items():
                if verdict == "sometimes":
                    self.check_witnesses(log, target, name, budget, retracted)
                    count += 1
                else:
                    self.check_error(
                        UnknownId, "entry_id", name, witnesses, log, target, name, budget=budget, retracted=retracted,
                    )
        self.assertGreater(count, 200)

    def test_ids_that_are_taken_or_retracted(self):
        log = tuple(("write", f"x{number}", ("c",) if number else (), ("c",), 1) for number in range(40))
        log = log + (W3, ("write", "x40", ("a",), ("b",), 1))
        retracted = [f"x{number}" for number in range(41, 190)] + ["w3", "a", "new", "n0"]
        for name in ("x0", "x20", "x39"):
            one, _ = self.check_witnesses(log, ("", "b"), name, 0, retracted)
            self.assertEqual(43, len(one))

    def test_a_full_log_with_many_open_triples(self):
        # Each of the sealed writes reads three cells that retracted writes block.
        cells = [chr(first) + "x" for first in range(ord("a"), ord("s"))]
        first = tuple(("write", f"b{cell}", (), (cell,), 9) for cell in cells)
        last = tuple(
            ("write", f"s{number}", tuple(sorted({cells[number % 18], cells[(number + 1) % 18], "zz"})), ("zz",), None)
            for number in range(42)
        )
        old = (("write", "old", (), ("old",), 1),)
        log = (old + first + last)[:60]
        self.assertEqual(log, compacted(log, budget=0))
        gone = [entry[1] for entry in first]
        found = verdicts(log, ("", "zz"), budget=0, retracted=gone)
        self.assertEqual({"old": "sometimes"}, {name: word for name, word in found.items() if word != "always"})
        self.check_witnesses(log, ("", "zz"), "old", 0, gone)

    def test_a_row_of_additional_writes(self):
        # A write of the cell r1 is unseen from q1 up to w1, one of r2 from q2 up to w2, and so on; each stretch
        # begins before the last one ends. From d to the target lead as many additional writes as there are cells.
        log = [T[0], T[1], ("query", "q1", ("ra",)), T[2]]
        cells = [f"r{letter}" for letter in "abcdefghij"]
        for number in range(1, 10):
            log.append(("query", f"q{number + 1}", (cells[number],)))
            log.append(("write", f"w{number}", (), (cells[number - 1],), 1))
        log += [("query", "qa", ("a",)), ("write", "w10", (), ("rj",), 1), ("write", "w", (), ("a",), 1), T[7]]
        log = tuple(log)
        found = verdicts(log, ("q", "a"), budget=0, retracted=["w"])
        self.assertEqual("sometimes", found["d"])
        one, other = self.check_witnesses(log, ("q", "a"), "d", 0, ["w"])
        self.assertEqual((len(log) + 11, log), (len(one), other))
        # With one stretch less in the row, d is out of reach behind f.
        log = tuple(entry for entry in log if entry[1] != "w5")
        found = verdicts(log, ("q", "a"), budget=0, retracted=["w"])
        self.assertEqual("never", found["d"])


class ClosedPaths(Checks, unittest.TestCase):
    def check_path(self, log, target, name, budget, retracted):
        path = closed_path(log, target, name, budget=budget, retracted=retracted)
        self.assertIs(list, type(path))
        source = {(row[0], row[1]): row[2] for row in dependencies(log, target, retracted=retracted)}
        gaps = open_gaps(log, target, budget=budget, retracted=retracted)
        uncertain = [(reader, cell) for reader, cell, _ in gaps]
        self.assertEqual(target, path[0])
        self.assertEqual(name, source[path[-1]])
        for pair, following in zip(path, path[1:]):
            self.assertEqual(source[pair], following[0])
        for pair in path:
            self.assertIs(tuple, type(pair))
            self.assertNotIn(pair, uncertain)

    def test_the_closed_one_of_two_ways(self):
        log = (
            ("write", "w1", (), ("a",), 1),
            ("write", "w2", ("a",), ("b",), 1),
            ("write", "w3", ("a",), ("c",), 1),
            ("query", "q0", ("b", "c")),
            ("write", "w4", (), ("b",), 5),
            ("write", "w5", ("b", "c"), ("d",), 1),
        )
        self.assertEqual(log, compacted(log, budget=0))
        found = verdicts(log, ("", "d"), budget=0, retracted=["w4"])
        self.assertEqual(
            {"w1": "always", "w2": "sometimes", "w3": "always", "w5": "always"}, found,
        )
        expected = [("", "d"), ("w5", "c"), ("w3", "a")]
        self.assertTrue(same(expected, closed_path(log, ("", "d"), "w1", budget=0, retracted=["w4"])))
        self.check_path(log, ("", "d"), "w1", 0, ["w4"])

    def test_many_situations(self):
        count = 0
        for log, budget, target, retracted in situations(68, 300, 18):
            for name, verdict in verdicts(log, target, budget=budget, retracted=retracted).items():
                if verdict == "always":
                    self.check_path(log, target, name, budget, retracted)
                    count += 1
                else:
                    self.check_error(
                        UnknownId, "entry_id", name, closed_path, log, target, name, budget=budget, retracted=retracted,
                    )
        self.assertGreater(count, 200)

    def test_a_long_path(self):
        log = busy_log()
        for name in ids_of(log, "write"):
            self.check_path(log, ("q53", "c"), name, 2, [])


if __name__ == "__main__":
    unittest.main()
