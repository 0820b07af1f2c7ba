"""Tests of neverwas.dependencies: [2.1] to [2.3] and, as far as it reaches, [0.3]."""

import random
import unittest

from helper import ANY_VALUES, NO_CELLS, NO_IDS, Checks, busy_log, defined_triples, ids_of, same, some_log
from helper import targets_of
from neverwas.dependencies import dependencies, dependency_set, source_of
from neverwas.errors import InvalidLog, SealedWrite, UnknownCell, UnknownId
from neverwas.logs import is_log

TWO = (("write", "w1", (), ("a",), 2), ("write", "w2", ("a",), ("b",), 3))
LOG = (
    ("write", "w1", (), ("a", "b", "c"), 2),
    ("query", "q1", ("a", "b")),
    ("write", "w2", ("a", "b"), ("b",), 3),
    ("write", "s1", ("c",), ("c",), None),
    ("write", "w3", ("b", "c", "x"), ("a",), 99),
    ("write", "w4", ("d",), ("d",), 1),
    ("query", "q2", ("a", "x", "y")),
    ("write", "w5", ("a",), ("a",), 1),
)
NO_LOGS = [value for value in ANY_VALUES if not same(value, ())] + [list(LOG), LOG + LOG[:1], LOG[0]]


class Examples(Checks, unittest.TestCase):
    def test_dependencies(self):
        self.assertEqual([("", "b", "w2"), ("w2", "a", None)], dependencies(TWO, ("", "b"), retracted=["w1"]))

    def test_dependency_set(self):
        self.assertEqual(["w1", "w2"], dependency_set(TWO, ("", "b")))

    def test_source_of(self):
        self.check_error(UnknownCell, "cell", "b", source_of, TWO, "w2", "b")


class Sources(Checks, unittest.TestCase):
    def test_the_last_write_before_the_reader(self):
        self.assertEqual("w1", source_of(LOG, "q1", "b"))
        self.assertEqual("w1", source_of(LOG, "w2", "a"))
        self.assertEqual("w2", source_of(LOG, "w3", "b"))
        self.assertEqual("w3", source_of(LOG, "q2", "a"))
        self.assertEqual("w3", source_of(LOG, "w5", "a"))
        self.assertEqual("w5", source_of(LOG, "", "a"))

    def test_a_write_reads_before_it_writes(self):
        self.assertEqual("w1", source_of(LOG, "w2", "b"))
        self.assertEqual("w1", source_of(LOG, "s1", "c"))
        self.assertIsNone(source_of(LOG, "w4", "d"))
        self.assertEqual("w4", source_of(LOG, "", "d"))

    def test_retracted_writes_are_skipped(self):
        self.assertEqual("w3", source_of(LOG, "", "a", retracted=["w5"]))
        self.assertEqual("w1", source_of(LOG, "", "a", retracted=["w5", "w3"]))
        self.assertIsNone(source_of(LOG, "", "a", retracted=["w5", "w3", "w1"]))
        self.assertEqual("w1", source_of(LOG, "w3", "b", retracted=["w2"]))
        self.assertEqual("s1", source_of(LOG, "w3", "c", retracted=["w1", "w2"]))

    def test_no_source(self):
        self.assertIsNone(source_of(LOG, "q2", "y"))
        self.assertIsNone(source_of(LOG, "w3", "x"))
        self.assertIsNone(source_of(LOG, "", "zzzz"))
        self.assertIsNone(source_of((), "", "a"))

    def test_later_writes_do_not_count(self):
        self.assertIsNone(source_of((("query", "q", ("a",)), ("write", "w", (), ("a",), 1)), "q", "a"))

    def test_a_retracted_reader(self):
        self.check_error(UnknownId, "entry_id", "w2", source_of, LOG, "w2", "a", retracted=["w2"])
        self.check_error(UnknownId, "entry_id", "w2", source_of, LOG, "w2", "A", retracted=["w1", "w2", "w2"])
        self.assertEqual("w1", source_of(LOG, "w2", "a", retracted=["w3"]))

    def test_unknown_readers(self):
        for value in NO_IDS + ["w6", "q", "W1", LOG[0], ("", "a")]:
            if value != "":
                self.check_error(UnknownId, "entry_id", value, source_of, LOG, value, "a")
                self.check_error(UnknownId, "entry_id", value, source_of, LOG, value, None)
        self.check_error(UnknownId, "entry_id", "w9", source_of, LOG, "w9", "a", retracted=["w9"])

    def test_cells_that_the_reader_does_not_read(self):
        for reader, cell in (("w2", "c"), ("w1", "a"), ("q1", "c"), ("s1", "b"), ("w5", "x"), ("q2", "z")):
            self.check_error(UnknownCell, "cell", cell, source_of, LOG, reader, cell)

    def test_values_that_are_not_cells(self):
        for reader in ("w2", "q1", ""):
            for value in NO_CELLS + [("a", "b")]:
                self.check_error(UnknownCell, "cell", value, source_of, LOG, reader, value)

    def test_the_documented_names(self):
        self.assertEqual("w3", source_of(retracted=("w5",), cell="a", reader="", log=LOG))


class Dependencies(Checks, unittest.TestCase):
    def test_the_whole_chain(self):
        self.assertEqual(
            [
                ("q2", "a", "w3"),
                ("w3", "b", "w2"), ("w3", "c", "s1"), ("w3", "x", None),
                ("s1", "c", "w1"),
                ("w2", "a", "w1"), ("w2", "b", "w1"),
            ],
            dependencies(LOG, ("q2", "a")),
        )
        self.assertEqual(["w1", "w2", "s1", "w3"], dependency_set(LOG, ("q2", "a")))

    def test_retractions(self):
        self.assertEqual(
            [("q2", "a", "w3"), ("w3", "b", "w1"), ("w3", "c", "s1"), ("w3", "x", None), ("s1", "c", "w1")],
            dependencies(LOG, ("q2", "a"), retracted=["w2"]),
        )
        self.assertEqual(["w1", "s1", "w3"], dependency_set(LOG, ("q2", "a"), retracted=["w2"]))
        self.assertEqual([("q2", "a", "w1")], dependencies(LOG, ("q2", "a"), retracted=["w3"]))
        self.assertEqual(["w1"], dependency_set(LOG, ("q2", "a"), retracted=["w3"]))
        self.assertEqual([("q2", "a", None)], dependencies(LOG, ("q2", "a"), retracted=["w3", "w1"]))
        self.assertEqual([], dependency_set(LOG, ("q2", "a"), retracted=["w3", "w1"]))

    def test_a_query_does_not_see_later_writes(self):
        self.assertEqual([("q1", "b", "w1")], dependencies(LOG, ("q1", "b")))
        self.assertEqual(("", "a", "w5"), dependencies(LOG, ("", "a"))[0])
        self.assertEqual(["w1", "w2", "s1", "w3", "w5"], dependency_set(LOG, ("", "a")))

    def test_a_write_reads_before_it_writes(self):
        self.assertEqual([("", "d", "w4"), ("w4", "d", None)], dependencies(LOG, ("", "d")))
        self.assertEqual(["w4"], dependency_set(LOG, ("", "d")))

    def test_no_source(self):
        for target in (("q2", "y"), ("q2", "x"), ("", "zzzz"), ("", "x")):
            self.assertEqual([(*target, None)], dependencies(LOG, target))
            self.assertEqual([], dependency_set(LOG, target))
        self.assertEqual([("", "a", None)], dependencies((), ("", "a")))
        self.assertEqual([], dependency_set((), ("", "a")))

    def test_each_write_comes_once(self):
        log = (
            ("write", "w1", ("e",), ("a",), 1),
            ("write", "w2", ("a",), ("b",), 1),
            ("write", "w3", ("a",), ("c",), 1),
            ("write", "w4", ("a", "b", "c"), ("d",), 1),
        )
        self.assertEqual(
            [
                ("", "d", "w4"),
                ("w4", "a", "w1"), ("w4", "b", "w2"), ("w4", "c", "w3"),
                ("w3", "a", "w1"), ("w2", "a", "w1"), ("w1", "e", None),
            ],
            dependencies(log, ("", "d")),
        )
        self.assertEqual(["w1", "w2", "w3", "w4"], dependency_set(log, ("", "d")))

    def test_log_order_is_not_the_order_of_ids(self):
        log = (("write", "z", (), ("a",), 1), ("write", "m", ("a",), ("a",), 1), ("write", "b", ("a",), ("a",), 1))
        self.assertEqual([("", "a", "b"), ("b", "a", "m"), ("m", "a", "z")], dependencies(log, ("", "a")))
        self.assertEqual(["z", "m", "b"], dependency_set(log, ("", "a")))

    def test_a_full_log(self):
        log = tuple(("write", f"w{number}", ("a",), ("a",), 1) for number in range(60))
        odd = [f"w{number}" for number in range(1, 60, 2)]
        even = [f"w{number}" for number in range(0, 60, 2)]
        self.assertEqual(even, dependency_set(log, ("", "a"), retracted=odd))
        found = dependencies(log, ("", "a"), retracted=odd)
        self.assertEqual(["w58", "w56"], [triple[2] for triple in found[:2]])
        self.assertEqual([("w2", "a", "w0"), ("w0", "a", None)], found[-2:])
        self.assertEqual(31, len(found))

    def test_a_busy_log_against_the_definition(self):
        log = busy_log()
        writes = ids_of(log, "write")
        for retracted in ([], ["w1", "w12"], writes[::2], writes[1:], writes):
            for target in targets_of(log):
                triples, found = defined_triples(log, target, retracted)
                self.assertEqual(triples, dependencies(log, target, retracted=retracted))
                self.assertEqual(found, dependency_set(log, target, retracted=retracted))
                for reader, cell, source in triples[:9]:
                    self.assertEqual(source, source_of(log, reader, cell, retracted=retracted))
        left = [name for name in writes if name not in ("w1", "w12")]
        self.assertEqual(left, dependency_set(log, ("", "a"), retracted=["w1", "w12"]))

    def test_many_logs_against_the_definition(self):
        chance = random.Random(2)
        for _ in range(400):
            log = some_log(chance)
            self.assertTrue(is_log(log), log)
            free = [entry[1] for entry in log if entry[0] == "write" and entry[4] is not None]
            retracted = chance.sample(free, chance.randint(0, len(free))) + ["other"] * chance.randint(0, 2)
            for target in targets_of(log):
                triples, writes = defined_triples(log, target, retracted)
                self.assertEqual(triples, dependencies(log, target, retracted=retracted), (log, target, retracted))
                self.assertEqual(writes, dependency_set(log, target, retracted=retracted), (log, target, retracted))
                for reader, cell, source in triples:
                    self.assertEqual(source, source_of(log, reader, cell, retracted=retracted))

    def test_the_documented_names(self):
        self.assertEqual([("", "b", None)], dependencies(retracted=["w2"], target=("", "b"), log=TWO))
        self.assertEqual([], dependency_set(retracted=["w2"], target=("", "b"), log=TWO))


class Arguments(Checks, unittest.TestCase):
    CALLS = ((dependencies, (("q2", "a"),)), (dependency_set, (("q2", "a"),)), (source_of, ("q2", "a")))

    def check_all(self, error, attribute, value, retracted):
        for call, others in self.CALLS:
            self.check_error(error, attribute, value, call, LOG, *others, retracted=retracted)

    def test_retracted_is_no_list(self):
        for value in ANY_VALUES + [{"w1": 1}, "w1", {}]:
            if not isinstance(value, (list, tuple)):
                self.check_all(UnknownId, "entry_id", value, value)

    def test_a_tuple_counts_as_a_list(self):
        for call, others in self.CALLS:
            for ids in (("w3",), (), ("w3", "w1")):
                self.assertEqual(call(LOG, *others, retracted=list(ids)), call(LOG, *others, retracted=ids))
        self.assertEqual([("q2", "a", "w1")], dependencies(LOG, ("q2", "a"), retracted=("w3",)))

    def test_by_default_nothing_is_retracted(self):
        for call, others in self.CALLS:
            self.assertEqual(call(LOG, *others, retracted=[]), call(LOG, *others))

    def test_duplicates_and_ids_that_do_not_occur(self):
        for call, others in self.CALLS:
            expected = call(LOG, *others, retracted=["w3"])
            for ids in (["w3", "w3", "w3"], ["w9", "w3"], ["w3", "q9", "w9", "w9"], ["0", "w3", "zzzzzz"]):
                self.assertEqual(expected, call(LOG, *others, retracted=ids))
            self.assertEqual(call(LOG, *others), call(LOG, *others, retracted=["none"]))

    def test_ids_that_occur_only_in_another_log(self):
        self.assertEqual([("", "a", None)], dependencies((), ("", "a"), retracted=["w1", "q1", "s1"]))

    def test_many_ids(self):
        ids = [f"x{number}" for number in range(199)]
        self.assertEqual([("q2", "a", "w1")], dependencies(LOG, ("q2", "a"), retracted=ids + ["w3"]))
        self.assertEqual([("q2", "a", "w1")], dependencies(LOG, ("q2", "a"), retracted=ids + ids + ["w3"]))

    def test_values_that_are_not_ids(self):
        for value in NO_IDS:
            for retracted in ([value], (value,), ["w1", value], ["w9", value, "q1", "s1"], (value, "s1")):
                self.check_all(UnknownId, "entry_id", value, retracted)

    def test_ids_of_queries(self):
        for entry_id in ("q1", "q2"):
            self.check_all(UnknownId, "entry_id", entry_id, [entry_id])
            self.check_all(UnknownId, "entry_id", entry_id, ("w1", entry_id, "s1", None))

    def test_ids_of_sealed_writes(self):
        self.check_all(SealedWrite, "entry_id", "s1", ["s1"])
        self.check_all(SealedWrite, "entry_id", "s1", ("w1", "w1", "s1", "q1", None))

    def test_invalid_log_comes_first(self):
        for log in NO_LOGS:
            for retracted in ([], None, ["s1"], [None]):
                for target in (("", "a"), None, ("w", "A")):
                    for call in (dependencies, dependency_set):
                        self.check_error(InvalidLog, None, None, call, log, target, retracted=retracted)
                self.check_error(InvalidLog, None, None, source_of, log, "", "a", retracted=retracted)
                self.check_error(InvalidLog, None, None, source_of, log, None, None, retracted=retracted)

    def test_retracted_comes_before_the_other_arguments(self):
        cases = ((["s1"], SealedWrite, "s1"), (["q1"], UnknownId, "q1"), (None, UnknownId, None))
        for retracted, error, value in cases:
            for target in ("", None, ("w9", "a"), ("", "A"), ("q1", "z")):
                for call in (dependencies, dependency_set):
                    self.check_error(error, "entry_id", value, call, LOG, target, retracted=retracted)
            for reader, cell in ((None, "a"), ("w9", "A"), ("w1", "a"), ("", "A")):
                self.check_error(error, "entry_id", value, source_of, LOG, reader, cell, retracted=retracted)

    def test_the_reader_comes_before_the_cell(self):
        for reader in ("w9", None, ["q2"]):
            for cell in ("A", None, ["a"], "z"):
                self.check_error(UnknownId, "entry_id", reader, source_of, LOG, reader, cell)
                for call in (dependencies, dependency_set):
                    self.check_error(UnknownId, "entry_id", reader, call, LOG, (reader, cell))

    def check_target(self, error, attribute, value, target):
        for call in (dependencies, dependency_set):
            for retracted in ((), ["w1"]):
                self.check_error(error, attribute, value, call, LOG, target, retracted=retracted)

    def test_targets_that_are_no_pairs(self):
        for value in ANY_VALUES + ["qa", ["q2", "a"], ["", "a"], ("q2",), ("q2", "a", "w3"), {"q2": "a", "": "a"}]:
            self.check_target(UnknownId, "entry_id", value, value)

    def test_first_items_that_are_no_query(self):
        for value in NO_IDS + ["w1", "s1", "w9", "q3", "q"]:
            if value != "":
                self.check_target(UnknownId, "entry_id", value, (value, "a"))
                self.check_target(UnknownId, "entry_id", value, (value, value))

    def test_second_items_that_are_not_asked_for(self):
        for reader, cell in (("q1", "c"), ("q1", "x"), ("q2", "b"), ("q2", "zzzz")):
            self.check_target(UnknownCell, "cell", cell, (reader, cell))
        for reader in ("q1", "q2", ""):
            for value in NO_CELLS + [("a", "b")]:
                self.check_target(UnknownCell, "cell", value, (reader, value))

    def test_retracted_is_keyword_only(self):
        for call, others in self.CALLS:
            with self.assertRaises(TypeError):
                call(LOG, *others, [])

    def test_each_list_is_new(self):
        for call in (dependencies, dependency_set):
            self.check_fresh(call, LOG, ("q2", "a"))
            self.check_fresh(call, LOG, ("q2", "a"), retracted=["w3", "w9"])
            self.check_fresh(call, LOG, ("", "zzzz"), retracted=["w3"])

    def test_a_list_that_is_changed_later_has_no_effect(self):
        retracted = ["w3"]
        before = dependencies(LOG, ("q2", "a"), retracted=retracted)
        retracted.append("w1")
        self.assertEqual([("q2", "a", "w1")], before)
        self.assertEqual([("q2", "a", None)], dependencies(LOG, ("q2", "a"), retracted=retracted))
        self.assertEqual(["w3", "w1"], retracted)


if __name__ == "__main__":
    unittest.main()
