"""Tests of neverwas.values: [9.1], what [0.2] guarantees of numbers and, as far as it reaches, [0.3]."""

import copy
import random
import unittest

from helper import ANY_VALUES, NO_BUDGETS, NO_IDS, Checks, busy_log, defined_triples, defined_ways, ids_of, places_of
from helper import prices_of, retractions_of, same, situations, some_log, targets_of, with_entry
from neverwas.compaction import compacted, explanation
from neverwas.dependencies import dependencies
from neverwas.errors import InvalidBudget, InvalidLog, InvalidRules, SealedWrite, UnknownCell, UnknownId
from neverwas.histories import certainty, open_gaps
from neverwas.values import distinguishing_rules, evaluate
from neverwas.verdicts import closed_path, verdicts, witnesses

TWO = (("write", "w1", (), ("a",), 2), ("write", "w2", ("a",), ("b",), 3))
TWO_RULES = {"w1": {"a": (7, ())}, "w2": {"b": (1, (3,))}}
OVER = (("write", "w1", (), ("a",), 2), ("write", "w2", (), ("a",), 4))
LOG = (
    ("write", "w1", (), ("a", "b"), 2),
    ("query", "q1", ("a", "b")),
    ("write", "w2", ("a", "b"), ("a", "c"), 3),
    ("write", "s1", ("a", "d"), ("a",), None),
    ("query", "q2", ("a", "c", "z")),
)
RULES = {
    "w1": {"a": (5, ()), "b": (1008, ())},
    "w2": {"a": (1, (2, 3)), "c": (0, (1008, 0))},
    "s1": {"a": (10, (1, 7))},
}
NO_LOGS = [value for value in ANY_VALUES if not same(value, ())] + [list(LOG), LOG + LOG[:1], LOG[0]]
NO_NUMBERS = [value for value in ANY_VALUES if type(value) is not int] + [-1, 1009, 1010, -1009, 10 ** 39, -(10 ** 39)]


def some_rules(chance, log, most=1008):
    """Return made-up rules for the writes of a log."""
    return {
        entry[1]: {
            cell: (chance.randint(0, most), tuple(chance.randint(0, most) for _ in entry[2])) for cell in entry[3]
        } for entry in log if entry[0] == "write"
    }


def chain_value(log, rules, target, retracted):
    """Return the value as the sum over all chains of reads: a constant times the factors along the chain."""
    triples = defined_triples(log, target, retracted)[0]
    source = {(reader, cell): name for reader, cell, name in triples}
    reads = {entry[1]: entry[2] for entry in log}

    def total(reader, cell, product):
        name = source[reader, cell]
        if name is None:
            return 0
        constant, factors = rules[name][cell]
        return product * constant + sum(
            total(name, read, product * factor) for read, factor in zip(reads[name], factors) if factor
        )

    return total(*target, 1) % 1009


def changed(rules, *keys, to):
    """Return the rules with the value at these keys replaced, or removed where it is "gone"."""
    result = copy.deepcopy(rules)
    place = result
    for key in keys[:-1]:
        place = place[key]
    if to == "gone":
        del place[keys[-1]]
    else:
        place[keys[-1]] = to
    return result


class Examples(unittest.TestCase):
    def test_evaluate(self):
        self.assertEqual("22", repr(evaluate(TWO, TWO_RULES, ("", "b"))))

    def test_distinguishing_rules(self):
        one, other, retracted, target = distinguishing_rules(OVER, "w1", budget=4)
        self.assertEqual(["w2"], retracted)
        first = evaluate(OVER, one, target, retracted=retracted)
        self.assertNotEqual(first, evaluate(OVER, other, target, retracted=retracted))


class Evaluate(Checks, unittest.TestCase):
    def check(self, expected, target, retracted=()):
        self.assertTrue(same(expected, evaluate(LOG, RULES, target, retracted=retracted)))

    def test_constants_and_factors(self):
        self.check(5, ("q1", "a"))
        self.check(1008, ("q1", "b"))
        # A write reads all its cells before it writes: 1 + 2 * 5 + 3 * 1008, and 1008 * 5.
        self.check((1 + 10 + 3024 + 10) % 1009, ("q2", "a"))
        self.check(5040 % 1009, ("q2", "c"))
        self.check(1008, ("", "b"))

    def test_a_cell_without_a_source(self):
        self.check(0, ("q2", "z"))
        self.check(0, ("", "zzzz"))
        self.check(0, ("q1", "a"), ["w1"])
        self.check(11, ("q2", "a"), ["w1"])
        self.assertEqual("0", repr(evaluate((), {}, ("", "a"))))

    def test_retractions(self):
        self.check(15, ("q2", "a"), ["w2"])
        self.check(0, ("q2", "c"), ["w2"])
        self.check(10, ("", "a"), ("w2", "w1", "w2", "gone"))

    def test_the_smallest_and_the_largest_numbers(self):
        for number in (0, 1, 1008):
            rules = {"w1": {"a": (number, ())}, "w2": {"b": (number, (number,))}}
            self.assertEqual((number + number * number) % 1009, evaluate(TWO, rules, ("", "b")))
        three = (("write", "w", ("a", "b", "c"), ("a", "b", "c"), 1),)
        log = three + tuple(("write", f"v{number}", *three[0][2:]) for number in range(50))
        rules = {name: {cell: (1008, (1008,) * 3) for cell in "abc"} for name in ids_of(log, "write")}
        self.assertEqual(1008, evaluate(three, rules, ("", "a")))
        for cell in "abc":
            value = 0
            for _ in log:
                value = (1008 + 3 * 1008 * value) % 1009
            self.assertEqual(value, evaluate(log, rules, ("", cell)))

    def test_made_up_logs_as_sums_over_chains(self):
        chance = random.Random(71)
        for _ in range(300):
            log = some_log(chance, 10)
            rules = some_rules(chance, log, chance.choice([1, 3, 1008]))
            retracted = [name for name in prices_of(log) if chance.random() < 0.3] + ["gone"]
            target = chance.choice(targets_of(log))
            expected = chain_value(log, rules, target, retracted)
            self.assertTrue(same(expected, evaluate(log, rules, target, retracted=retracted)))

    def test_rules_for_other_ids_have_no_effect(self):
        others = {"w9": {"a": (1, ())}, "q1": None, "": {}, None: 1, 0: [], True: (), ("w1",): "x", "x": {"a": (-1, 5)}}
        for target in (("q2", "a"), ("q2", "c")):
            self.assertEqual(evaluate(LOG, RULES, target), evaluate(LOG, {**others, **RULES}, target))

    def test_the_documented_names(self):
        self.assertEqual(15, evaluate(retracted=["w2"], target=("q2", "a"), rules=RULES, log=LOG))
        with self.assertRaises(TypeError):
            evaluate(LOG, RULES, ("q2", "a"), ["w2"])
        self.check_steady(evaluate, LOG, RULES, ("q2", "a"), retracted=["w2"])


class InvalidRulesOf(Checks, unittest.TestCase):
    def check_rules(self, entry_id, rules, **more):
        for target in (("q2", "a"), ("q1", "b"), None, ("w1", "a"), ("q1", "z")):
            self.check_error(InvalidRules, "entry_id", entry_id, evaluate, LOG, rules, target, **more)

    def test_any_value_that_is_no_dict(self):
        for value in ANY_VALUES + [list(RULES.items()), tuple(RULES.items()), list(RULES)]:
            if not isinstance(value, dict):
                self.check_rules("", value)
                self.check_error(InvalidRules, "entry_id", "", evaluate, (), value, ("", "a"))

    def test_the_first_write_without_valid_rules(self):
        self.check_rules("w1", {})
        self.check_rules("w2", {"w1": RULES["w1"]})
        self.check_rules("s1", {"w1": RULES["w1"], "w2": RULES["w2"]})
        self.check_rules("w2", {"s1": None, "w2": None, "w1": RULES["w1"]})

    def test_retracted_writes_need_rules_too(self):
        for name in ("w1", "w2"):
            self.check_rules(name, changed(RULES, name, to="gone"), retracted=["w1", "w2"])

    def test_writes_behind_the_target_need_rules_too(self):
        self.check_error(
            InvalidRules, "entry_id", "s1", evaluate, LOG, changed(RULES, "s1", to="gone"), ("q1", "a"),
        )

    def test_any_value_as_the_rules_of_a_write(self):
        for value in ANY_VALUES + [[("a", (10, (1, 7)))], (("a", (10, (1, 7))),), (10, (1, 7)), [RULES["s1"]]]:
            self.check_rules("s1", changed(RULES, "s1", to=value))
            self.check_rules("w1", changed(RULES, "w1", to=value))

    def test_exactly_the_cells_that_the_write_writes(self):
        self.check_rules("w2", changed(RULES, "w2", "c", to="gone"))
        self.check_rules("s1", changed(RULES, "s1", "a", to="gone"))
        for key in ("b", "", "A", None, 0, True, ("a",)):
            self.check_rules("s1", changed(RULES, "s1", key, to=(10, (1, 7))))
            self.check_rules("s1", changed(RULES, "s1", to={key: (10, (1, 7))}))

    def test_any_value_as_a_pair(self):
        pairs = [[10, (1, 7)], (10,), (10, (1, 7), 3), (10, 1, 7), (10, [1, 7]), ((1, 7), 10), (10, {1: 7})]
        for value in ANY_VALUES + pairs:
            self.check_rules("s1", changed(RULES, "s1", "a", to=value))
            self.check_rules("w2", changed(RULES, "w2", "c", to=value))

    def test_as_many_factors_as_cells_read(self):
        for factors in ((), (1,), (1, 2, 3), None, "ab", [1, 2]):
            self.check_rules("w2", changed(RULES, "w2", "a", to=(0, factors)))
            if factors != ():
                self.check_rules("w1", changed(RULES, "w1", "b", to=(0, factors)))

    def test_numbers_from_0_to_1008(self):
        for number in (0, 1, 1008):
            rules = changed(RULES, "s1", "a", to=(number, (number, number)))
            self.assertEqual(number, evaluate(LOG, rules, ("q2", "a"), retracted=["w1", "w2"]))
        for value in NO_NUMBERS:
            self.check_rules("s1", changed(RULES, "s1", "a", to=(value, (1, 7))))
            self.check_rules("s1", changed(RULES, "s1", "a", to=(10, (value, 7))))
            self.check_rules("s1", changed(RULES, "s1", "a", to=(10, (1, value))))
            self.check_rules("w2", changed(RULES, "w2", "c", to=(value, (0, 0))))


class ErrorsOfEvaluate(Checks, unittest.TestCase):
    def test_invalid_log_comes_first(self):
        for log in NO_LOGS:
            for rules, target, retracted in ((RULES, ("q2", "a"), []), (None, None, None), ({}, ("", "A"), ["q1"])):
                self.check_error(InvalidLog, None, None, evaluate, log, rules, target, retracted=retracted)

    def test_then_the_retracted_ids(self):
        for rules, target in ((RULES, ("q2", "a")), (None, None), ({}, ("q1", "z"))):
            for value in ANY_VALUES:
                if not isinstance(value, (list, tuple)):
                    self.check_error(UnknownId, "entry_id", value, evaluate, LOG, rules, target, retracted=value)
            for value in NO_IDS + ["q1"]:
                retracted = ["gone", "w1", value, "s1"]
                self.check_error(UnknownId, "entry_id", value, evaluate, LOG, rules, target, retracted=retracted)
            self.check_error(SealedWrite, "entry_id", "s1", evaluate, LOG, rules, target, retracted=("s1", "q1"))

    def test_the_target_comes_last(self):
        for value in ANY_VALUES + [["q1", "a"], ("q1", "a", "b"), ("q1",)]:
            self.check_error(UnknownId, "entry_id", value, evaluate, LOG, RULES, value)
        for value in NO_IDS + ["w1", "s1", "q9"]:
            if value != "":
                self.check_error(UnknownId, "entry_id", value, evaluate, LOG, RULES, (value, "A"))
        for value in ANY_VALUES + ["c", "z"]:
            if value not in ("a", "b"):
                self.check_error(UnknownCell, "cell", value, evaluate, LOG, RULES, ("q1", value))
            if value not in ("a", "abcd", "c", "z"):
                self.check_error(UnknownCell, "cell", value, evaluate, LOG, RULES, ("", value))


class TheSameNumbers(unittest.TestCase):
    def test_kept_entries_compute_the_same_numbers(self):
        chance = random.Random(72)
        compared = 0
        for _ in range(150):
            log = some_log(chance, 9)
            rules = some_rules(chance, log)
            budget = chance.choice([0, 1, 2, 4, 102])
            kept = compacted(log, budget=budget)
            for price, retracted in retractions_of(kept):
                if price <= budget and chance.random() < 0.3:
                    for target in targets_of(log):
                        expected = evaluate(log, rules, target, retracted=retracted)
                        self.assertEqual(expected, evaluate(kept, rules, target, retracted=retracted))
                        compared += kept != log and expected != 0
        self.assertGreater(compared, 100)

    def test_what_is_certain_is_certain_for_numbers(self):
        chance = random.Random(73)
        counts = {True: 0, False: 0}
        for log, budget, target, retracted in situations(74, 300):
            others = {"budget": budget, "retracted": retracted}
            rules = some_rules(chance, log)
            number = evaluate(log, rules, target, retracted=retracted)
            found = certainty(log, target, **others)
            counts[found == ("certain",)] += 1
            if found == ("certain",):
                for history in self.histories(chance, log, budget, retracted):
                    all_rules = {**some_rules(chance, history), **rules}
                    self.assertEqual(number, evaluate(history, all_rules, target, retracted=retracted))
            else:
                # Whatever the log computes, the additional write may store another number.
                reader, cell, _ = open_gaps(log, target, **others)[0]
                self.assertIn(reader, [row[0] for row in dependencies(log, target, retracted=retracted)])
                additional = [entry for entry in found[1] if entry not in log]
                self.assertEqual([(cell,)], [entry[3] for entry in additional])
        self.assertGreater(min(counts.values()), 50)

    def histories(self, chance, log, budget, retracted):
        """Return some histories with one additional write."""
        found = [log]
        for position in range(len(log) + 1):
            reads = tuple(sorted(chance.sample("abcdef", chance.randint(0, 2))))
            value = with_entry(log, position, ("write", "new", reads, (chance.choice("abcde"),), 1))
            if compacted(value, budget=budget) == log:
                found.append(value)
        return found

    def test_verdicts_hold_for_numbers(self):
        chance = random.Random(75)
        counts = {"always": 0, "sometimes": 0, "never": 0}
        for log, budget, target, retracted in situations(76, 400, 14):
            others = {"budget": budget, "retracted": retracted}
            for name, verdict in verdicts(log, target, **others).items():
                counts[verdict] += 1
                if verdict == "never":
                    for history in self.histories(chance, log, budget, retracted):
                        rules = some_rules(chance, history)
                        other = changed(rules, name, to=some_rules(chance, history)[name])
                        self.check_numbers(True, history, rules, other, target, retracted)
                if verdict == "always":
                    pairs = closed_path(log, target, name, **others)
                    for history in self.histories(chance, log, budget, retracted):
                        self.check_chain(history, name, pairs, target, retracted)
                if verdict == "sometimes":
                    one, other = witnesses(log, target, name, **others)
                    self.check_chain(one, name, self.chain_to(one, name, target, retracted), target, retracted)
                    rules = some_rules(chance, other)
                    changes = changed(rules, name, to=some_rules(chance, other)[name])
                    self.check_numbers(True, other, rules, changes, target, retracted)
        self.assertGreater(min(counts.values()), 100)

    def check_numbers(self, equal, log, rules, other, target, retracted):
        one = evaluate(log, rules, target, retracted=retracted)
        self.assertIs(equal, one == evaluate(log, other, target, retracted=retracted))

    def chain_to(self, log, name, target, retracted):
        """Return the pairs (reader, cell) of some chain of reads from the target to the write."""
        readers = {}
        for reader, cell, source in dependencies(log, target, retracted=retracted):
            readers.setdefault(source, (reader, cell))
        pairs = [readers[name]]
        while pairs[-1][0] != target[0]:
            pairs.append(readers[pairs[-1][0]])
        return pairs[::-1]

    def check_chain(self, log, name, pairs, target, retracted):
        """Factors of 1 along this chain of reads show that the constants of the write matter."""
        rules = {
            entry[1]: {cell: (0, (0,) * len(entry[2])) for cell in entry[3]} for entry in log if entry[0] == "write"
        }
        reads = {entry[1]: entry[2] for entry in log}
        for (_, written), (reader, read) in zip(pairs, pairs[1:]):
            rules[reader][written] = (0, tuple(int(cell == read) for cell in reads[reader]))
        other = copy.deepcopy(rules)
        other[name] = {cell: (1, factors) for cell, (_, factors) in rules[name].items()}
        self.check_numbers(False, log, rules, other, target, retracted)


class Distinguishing(Checks, unittest.TestCase):
    def check(self, log, name, budget):
        found = distinguishing_rules(log, name, budget=budget)
        self.assertEqual((tuple, 4), (type(found), len(found)))
        one, other, retracted, target = found
        self.assertTrue(same(("kept", target, retracted), explanation(log, name, budget=budget)))
        for rules in (one, other):
            self.assertEqual(ids_of(log, "write"), [entry[1] for entry in log if entry[1] in rules])
            self.assertEqual(len(ids_of(log, "write")), len(rules))
        first = evaluate(log, one, target, retracted=retracted)
        self.assertNotEqual(first, evaluate(log, other, target, retracted=retracted))
        for place in places_of(one):
            for another in places_of(other):
                self.assertIsNot(place, another)
        self.assertEqual({**one, name: None}, {**other, name: None})
        self.assertEqual(
            {cell: rule[1] for cell, rule in one[name].items()}, {cell: rule[1] for cell, rule in other[name].items()},
        )
        return found

    def test_many_logs(self):
        chance = random.Random(77)
        counts = {True: 0, False: 0}
        for _ in range(400):
            log = some_log(chance)
            budget = chance.choice([0, 1, 3, 10, 102, 999])
            for name, way in defined_ways(log).items():
                kept = way is not None and way[0] <= budget
                counts[kept] += 1
                if kept:
                    self.check(log, name, budget)
                else:
                    self.check_error(UnknownId, "entry_id", name, distinguishing_rules, log, name, budget=budget)
        self.assertGreater(min(counts.values()), 100)

    def test_long_logs_in_which_the_chains_are_many(self):
        for log in (busy_log(), busy_log(99)):
            for name in ids_of(compacted(log, budget=2), "write"):
                self.check(log, name, 2)

    def test_chains_whose_number_is_1009(self):
        # Each write adds the numbers of chains of a and b in one of the two.
        counts, steps = {"a": 1009, "b": 624}, []
        while counts["a"] != counts["b"]:
            steps.insert(0, max(counts, key=counts.get))
            counts[steps[0]] = abs(counts["a"] - counts["b"])
        log = (("write", "w", (), ("a", "b"), 1),)
        log += tuple(("write", f"d{number}", ("a", "b"), (cell,), 1) for number, cell in enumerate(steps))
        log += (("query", "q", ("a",)),)
        for constant in (0, 1):
            rules = {f"d{number}": {cell: (0, (1, 1))} for number, cell in enumerate(steps)}
            rules["w"] = {"a": (constant, ()), "b": (constant, ())}
            self.assertEqual(0, evaluate(log, rules, ("q", "a")))
        for name in ids_of(log, "write"):
            self.check(log, name, 0)

    def test_the_constants_of_several_cells(self):
        log = (("write", "w1", (), ("a", "b", "c"), 2), ("write", "w2", (), ("a", "b"), 4), ("query", "q", ("b",)))
        self.check(log, "w1", 0)
        self.check(log + (("write", "w3", (), ("c",), 1),), "w1", 1)

    def test_sealed_writes(self):
        log = (("write", "s1", ("a",), ("a",), None), ("write", "s2", ("a",), ("a",), None))
        self.check(log, "s1", 0)
        self.check(log, "s2", 999)

    def test_errors_in_their_order(self):
        for log in NO_LOGS:
            for name, budget in (("w1", 10), (None, None), ("q1", -1)):
                self.check_error(InvalidLog, None, None, distinguishing_rules, log, name, budget=budget)
        for value in NO_BUDGETS:
            for name in ("w1", "q1", None, "w9"):
                self.check_error(InvalidBudget, None, None, distinguishing_rules, LOG, name, budget=value)
        for value in NO_IDS + ["q1", "q2", "w9", LOG[0]]:
            self.check_error(UnknownId, "entry_id", value, distinguishing_rules, LOG, value)
        self.check_error(UnknownId, "entry_id", "w1", distinguishing_rules, OVER, "w1", budget=3)

    def test_the_default_budget(self):
        log = (("write", "w1", (), ("a",), 2), ("write", "w2", (), ("a",), 10))
        self.assertEqual((["w2"], ("", "a")), distinguishing_rules(log, "w1")[2:])
        log = log[:1] + (("write", "w2", (), ("a",), 11),)
        self.check_error(UnknownId, "entry_id", "w1", distinguishing_rules, log, "w1")
        with self.assertRaises(TypeError):
            distinguishing_rules(log, "w2", 5)
        self.assertEqual(["w2"], distinguishing_rules(entry_id="w1", budget=11, log=log)[2])

    def test_each_list_and_dict_is_new(self):
        self.check_fresh(distinguishing_rules, OVER, "w1", budget=4)
        self.check_fresh(distinguishing_rules, LOG, "w2")


if __name__ == "__main__":
    unittest.main()
