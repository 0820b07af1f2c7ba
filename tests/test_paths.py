"""Tests of neverwas.paths: [3.1], [3.2], what [0.2] and [2.3] say of them and, as far as it reaches, [0.3]."""

import random
import unittest

from helper import ANY_VALUES, NO_CELLS, NO_IDS, Checks, busy_log, defined_edges, defined_paths, defined_ways
from helper import ids_of, is_usable, retractions_of, same, some_log, targets_of
from neverwas.dependencies import dependency_set
from neverwas.errors import InvalidLog, UnknownCell, UnknownId
from neverwas.paths import all_costs, blockers, cheapest_path, retractions_for

ASKED = (("write", "w1", (), ("a",), 2), ("write", "w2", (), ("a",), 4), ("query", "q1", ("a",)))
LOG = (
    ("write", "w1", (), ("a", "b"), 2),
    ("write", "w2", ("a",), ("a", "c"), 3),
    ("query", "q1", ("a", "d")),
    ("write", "s1", ("b",), ("b",), None),
    ("write", "w3", ("a", "b", "c"), ("d",), 99),
    ("write", "w4", ("d", "e"), ("a", "d"), 5),
    ("query", "q2", ("a", "b", "c")),
    ("write", "s2", (), ("c", "d"), None),
)
NO_LOGS = [value for value in ANY_VALUES if not same(value, ())] + [list(LOG), LOG + LOG[:1], LOG[0]]
CELLS = ("a", "b", "c", "d", "e", "zzzz")


def chain(count, price):
    """Return writes that each read a and write a."""
    return tuple(("write", f"w{number}", ("a",), ("a",), price) for number in range(count))


class Examples(Checks, unittest.TestCase):
    def test_blockers(self):
        self.assertEqual(["w2"], blockers(ASKED, "w1", "q1", "a"))

    def test_cheapest_path(self):
        self.assertEqual((4, (("", "a"),)), cheapest_path(ASKED, "w1"))

    def test_retractions_for(self):
        self.assertEqual(["w2"], retractions_for(ASKED, "w1", (("q1", "a"),)))

    def test_all_costs(self):
        log = (
            ("write", "w1", (), ("a",), 2),
            ("write", "w2", ("a",), ("b",), 3),
            ("write", "w3", (), ("a", "b"), 1),
        )
        self.assertEqual({"w1": 1, "w2": 1, "w3": 0}, all_costs(log))
        self.assertEqual([], blockers(log, "w1", "w2", "a"))
        self.assertEqual(["w3"], blockers(log, "w2", "", "b"))
        self.assertEqual((1, (("", "a"),)), cheapest_path(log, "w1"))


class Blockers(Checks, unittest.TestCase):
    def test_writes_between_that_write_the_cell(self):
        self.assertEqual(["w2", "w4"], blockers(LOG, "w1", "q2", "a"))
        self.assertEqual(["w2", "w4"], blockers(LOG, "w1", "", "a"))
        self.assertEqual(["w2"], blockers(LOG, "w1", "w3", "a"))
        self.assertEqual(["w4"], blockers(LOG, "w2", "q2", "a"))
        self.assertEqual([], blockers(LOG, "w2", "w3", "c"))

    def test_the_two_ends_are_no_blockers(self):
        self.assertEqual([], blockers(LOG, "w1", "w2", "a"))
        self.assertEqual([], blockers(LOG, "w1", "s1", "b"))
        self.assertEqual([], blockers(LOG, "w4", "q2", "a"))
        self.assertEqual([], blockers(LOG, "s2", "", "d"))

    def test_edges_that_cannot_be_used(self):
        self.assertEqual(["s1"], blockers(LOG, "w1", "w3", "b"))
        self.assertEqual(["s1"], blockers(LOG, "w1", "q2", "b"))
        self.assertEqual(["w4", "s2"], blockers(LOG, "w3", "", "d"))
        self.assertEqual(["s2"], blockers(LOG, "w2", "", "c"))

    def test_a_sealed_writer(self):
        self.assertEqual([], blockers(LOG, "s1", "w3", "b"))
        self.assertEqual([], blockers(LOG, "s2", "", "c"))

    def test_the_end_reads_every_cell(self):
        self.assertEqual([], blockers((("write", "w", (), ("zzzz",), 1),), "w", "", "zzzz"))

    def test_a_log_order_that_is_not_the_order_of_ids(self):
        log = tuple(("write", name, (), ("a",), 1) for name in ("m", "z", "b", "k"))
        self.assertEqual(["z", "b", "k"], blockers(log, "m", "", "a"))

    def test_a_full_log(self):
        log = chain(60, 1)
        self.assertEqual([f"w{number}" for number in range(1, 60)], blockers(log, "w0", "", "a"))
        self.assertEqual([f"w{number}" for number in range(1, 59)], blockers(log, "w0", "w59", "a"))

    def test_every_edge_of_many_logs(self):
        chance = random.Random(6)
        for log in [some_log(chance) for _ in range(200)] + [busy_log()[:25]]:
            for position, entry in enumerate(log):
                edges = {}
                if entry[0] == "write":
                    edges = {edge[1:3]: [found[1] for found in edge[3]] for edge in defined_edges(log, position)}
                for reader in [other[1] for other in log] + [""]:
                    for cell in CELLS:
                        if (reader, cell) in edges:
                            self.assertEqual(edges[reader, cell], blockers(log, entry[1], reader, cell))
                        else:
                            with self.assertRaises((UnknownId, UnknownCell)):
                                blockers(log, entry[1], reader, cell)

    def test_the_documented_names(self):
        self.assertEqual(["w2"], blockers(cell="a", reader="w3", writer="w1", log=LOG))

    def test_invalid_log_comes_first(self):
        for log in NO_LOGS:
            for others in (("w1", "w2", "a"), (None, None, None), ("q1", "", "A")):
                self.check_error(InvalidLog, None, None, blockers, log, *others)

    def test_first_ids_that_are_not_those_of_a_write(self):
        for value in NO_IDS + ["q1", "q2", "w9", "w", LOG[0]]:
            for others in (("q2", "a"), ("", "zzzz"), ("w9", "a"), (None, "a"), ("w2", None), (value, value)):
                self.check_error(UnknownId, "entry_id", value, blockers, LOG, value, *others)

    def test_second_ids_that_are_not_those_of_a_later_entry(self):
        for value in NO_IDS + ["w9", "q9", LOG[0]]:
            if value != "":
                for cell in ("a", "zzzz", "A", None, ["a"]):
                    self.check_error(UnknownId, "entry_id", value, blockers, LOG, "w1", value, cell)
        for writer, reader in (("w2", "w1"), ("w1", "w1"), ("w4", "w3"), ("w4", "q1"), ("s2", "q2"), ("s2", "s2")):
            for cell in ("a", "c", "d", "A", None):
                self.check_error(UnknownId, "entry_id", reader, blockers, LOG, writer, reader, cell)

    def test_cells_that_the_writer_does_not_write(self):
        for writer, reader, cell in (("w1", "w2", "c"), ("w1", "q1", "d"), ("w1", "", "c"), ("w2", "q2", "b")):
            self.check_error(UnknownCell, "cell", cell, blockers, LOG, writer, reader, cell)

    def test_cells_that_the_reader_does_not_read(self):
        for writer, reader, cell in (("w1", "w2", "b"), ("w1", "w4", "a"), ("w2", "q1", "c"), ("w1", "s2", "a")):
            self.check_error(UnknownCell, "cell", cell, blockers, LOG, writer, reader, cell)

    def test_values_that_are_not_cells(self):
        for reader in ("w2", "q1", ""):
            for value in NO_CELLS + [("a",), ("a", "b")]:
                self.check_error(UnknownCell, "cell", value, blockers, LOG, "w1", reader, value)

    def test_each_list_is_new(self):
        self.check_fresh(blockers, LOG, "w1", "q2", "a")
        self.check_fresh(blockers, LOG, "w1", "w2", "a")


class CheapestPaths(Checks, unittest.TestCase):
    def test_the_cost_is_that_of_the_blockers(self):
        log = (("write", "w1", (), ("a",), 50), ("write", "w2", (), ("a",), 4), ("write", "w3", (), ("a",), 99))
        self.assertEqual((103, (("", "a"),)), cheapest_path(log, "w1"))
        self.assertEqual((99, (("", "a"),)), cheapest_path(log, "w2"))
        self.assertEqual((0, (("", "a"),)), cheapest_path(log, "w3"))
        self.assertEqual({"w1": 103, "w2": 99, "w3": 0}, all_costs(log))

    def test_a_path_over_several_edges(self):
        self.assertEqual((0, (("s1", "b"), ("", "b"))), cheapest_path(LOG, "w1"))
        self.assertEqual((0, (("q1", "a"),)), cheapest_path(LOG, "w2"))
        self.assertEqual((0, (("", "b"),)), cheapest_path(LOG, "s1"))
        self.assertEqual((0, (("w4", "d"), ("", "a"))), cheapest_path(LOG, "w3"))

    def test_costs_add_up_along_a_path(self):
        log = (
            ("write", "w1", (), ("a",), 1),
            ("write", "w2", (), ("a",), 3),
            ("write", "w3", ("a",), ("b",), 1),
            ("write", "w4", (), ("b",), 5),
            ("write", "w5", ("b",), ("c",), 1),
            ("write", "w6", (), ("a", "b", "c"), 20),
        )
        self.assertEqual((20, (("", "a"),)), cheapest_path(log, "w2"))
        self.assertEqual((23, (("", "a"),)), cheapest_path(log, "w1"))
        log = log[:5] + (("query", "q1", ("c",)),) + log[5:]
        self.assertEqual((8, (("w3", "a"), ("w5", "b"), ("q1", "c"))), cheapest_path(log, "w1"))
        self.assertEqual((5, (("w3", "a"), ("w5", "b"), ("q1", "c"))), cheapest_path(log, "w2"))
        self.assertEqual(["w2", "w4"], retractions_for(log, "w1", (("w3", "a"), ("w5", "b"), ("q1", "c"))))

    def test_the_smallest_of_equally_cheap_paths(self):
        log = (("write", "w1", (), ("b", "c"), 1), ("query", "a", ("c",)))
        self.assertEqual((0, (("", "b"),)), cheapest_path(log, "w1"))
        log = (("write", "w1", (), ("b", "c"), 1), ("query", "z", ("b", "c")), ("query", "a", ("c",)))
        sealed = log + (("write", "s1", (), ("b", "c"), None),)
        self.assertEqual((0, (("a", "c"),)), cheapest_path(sealed, "w1"))
        self.assertEqual((0, (("z", "b"),)), cheapest_path(sealed[:2] + sealed[3:], "w1"))

    def test_the_first_pairs_are_compared_first(self):
        log = (
            ("write", "w1", (), ("a",), 1),
            ("write", "m", ("a",), ("b",), 1),
            ("write", "k", ("a",), ("c",), 1),
            ("query", "x", ("b",)),
            ("query", "z", ("c",)),
            ("write", "s1", (), ("a", "b", "c"), None),
        )
        self.assertEqual((0, (("k", "a"), ("z", "c"))), cheapest_path(log, "w1"))

    def test_a_longer_path_may_be_smaller(self):
        log = (
            ("write", "w1", (), ("a",), 1),
            ("write", "b", ("a",), ("b",), 1),
            ("query", "c", ("a", "b")),
            ("write", "s1", (), ("a", "b"), None),
        )
        self.assertEqual((0, (("b", "a"), ("c", "b"))), cheapest_path(log, "w1"))

    def test_a_cheaper_path_comes_before_a_smaller_one(self):
        log = (("write", "w1", (), ("a", "b"), 1), ("write", "w2", (), ("a",), 1))
        self.assertEqual((0, (("", "b"),)), cheapest_path(log, "w1"))

    def test_no_path(self):
        log = (("write", "w1", (), ("a", "b"), 1), ("write", "s1", (), ("a", "b"), None))
        self.assertIsNone(cheapest_path(log, "w1"))
        self.assertEqual({"w1": None, "s1": 0}, all_costs(log))
        log = log[:1] + (("write", "w2", ("a",), ("c",), 1), ("write", "s1", (), ("a", "b", "c"), None))
        self.assertIsNone(cheapest_path(log, "w1"))
        self.assertIsNone(cheapest_path(log, "w2"))
        self.assertEqual({"w1": None, "w2": None, "s1": 0}, all_costs(log))

    def test_a_sealed_write_has_paths_like_any_other(self):
        log = (("write", "s1", (), ("a",), None), ("write", "w1", (), ("a",), 7))
        self.assertEqual((7, (("", "a"),)), cheapest_path(log, "s1"))
        log = log + (("write", "s2", (), ("a",), None),)
        self.assertIsNone(cheapest_path(log, "s1"))

    def test_a_sealed_blocker_before_the_reader_only(self):
        log = (("write", "w1", (), ("a",), 1), ("write", "s1", ("a",), ("a",), None))
        self.assertEqual((0, (("s1", "a"), ("", "a"))), cheapest_path(log, "w1"))

    def test_a_query_leads_no_further(self):
        log = (("write", "w1", (), ("a",), 1), ("query", "q1", ("a",)), ("write", "w2", ("b",), ("a",), 1))
        self.assertEqual((0, (("q1", "a"),)), cheapest_path(log, "w1"))

    def test_no_entries(self):
        self.assertEqual({}, all_costs(()))
        self.assertEqual({}, all_costs((("query", "q1", ("a",)),)))

    def test_many_logs_against_all_their_paths(self):
        chance = random.Random(7)
        seen = {"none": 0, "long": 0, "dear": 0}
        for _ in range(300):
            log = some_log(chance, 10)
            costs = {}
            for position, entry in enumerate(log):
                if entry[0] == "write":
                    paths = defined_paths(log, position)
                    way = min([found[:2] for found in paths], default=None)
                    self.assertEqual(way, cheapest_path(log, entry[1]), log)
                    costs[entry[1]] = None if way is None else way[0]
                    seen["none"] += way is None
                    seen["long"] += way is not None and len(way[1]) > 2
                    seen["dear"] += way is not None and way[0] > 5
            self.assertEqual(list(costs.items()), list(all_costs(log).items()))
        self.assertGreater(min(seen.values()), 10, seen)

    def test_full_logs(self):
        chance = random.Random(8)
        logs = [busy_log(), busy_log(99), chain(60, 99)]
        while len(logs) < 12:
            logs.append((some_log(chance, 40, "m") + some_log(chance, 40, "z") + some_log(chance, 40, "b"))[:60])
        for log in logs:
            ways = defined_ways(log)
            for entry_id, way in ways.items():
                self.assertEqual(way, cheapest_path(log, entry_id))
            costs = [(name, ways[name] and ways[name][0]) for name in ids_of(log, "write")]
            self.assertEqual(costs, list(all_costs(log).items()))

    def test_the_highest_costs(self):
        log = tuple(("write", f"w{number}", (), ("a",), 99) for number in range(60))
        self.assertEqual((59 * 99, (("", "a"),)), cheapest_path(log, "w0"))
        self.assertEqual([(59 - number) * 99 for number in range(60)], list(all_costs(log).values()))

    def test_invalid_log_comes_first(self):
        for log in NO_LOGS:
            self.check_error(InvalidLog, None, None, all_costs, log)
            for value in ("w1", None, "", ["w1"]):
                self.check_error(InvalidLog, None, None, cheapest_path, log, value)

    def test_ids_that_are_not_those_of_a_write(self):
        for log in ((), LOG):
            for value in NO_IDS + ["q1", "q2", "w9", LOG[0]]:
                self.check_error(UnknownId, "entry_id", value, cheapest_path, log, value)

    def test_the_documented_names(self):
        self.assertEqual((0, (("q1", "a"),)), cheapest_path(entry_id="w2", log=LOG))
        self.assertEqual(["w1", "w2", "s1", "w3", "w4", "s2"], list(all_costs(log=LOG)))

    def test_each_dict_is_new(self):
        self.check_fresh(all_costs, LOG)
        self.check_fresh(all_costs, ())
        self.check_steady(cheapest_path, LOG, "w1")


class Retractions(Checks, unittest.TestCase):
    def check_no_path(self, log, entry_id, value):
        self.check_error(UnknownId, "entry_id", value, retractions_for, log, entry_id, value)

    def test_the_blockers_along_the_path(self):
        self.assertEqual(["w2", "w4"], retractions_for(LOG, "w1", (("q2", "a"),)))
        self.assertEqual(["w2", "w4"], retractions_for(LOG, "w1", (("", "a"),)))
        self.assertEqual(["w4"], retractions_for(LOG, "w1", (("w2", "a"), ("", "a"))))
        self.assertEqual(["w2"], retractions_for(LOG, "w1", (("w3", "a"), ("w4", "d"), ("q2", "a"))))
        self.assertEqual([], retractions_for(LOG, "w1", (("w2", "a"), ("w3", "a"), ("w4", "d"), ("q2", "a"))))

    def test_every_path_of_many_logs(self):
        chance = random.Random(9)
        for _ in range(150):
            log = some_log(chance, 9)
            for position, entry in enumerate(log):
                if entry[0] == "write":
                    for _, path, ids in defined_paths(log, position)[:60]:
                        self.assertEqual(ids, retractions_for(log, entry[1], path), (log, path))

    def test_values_like_paths(self):
        chance = random.Random(10)
        readers, found = ["", "w1", "w2", "w4", "w6", "q1", "q3", "q5"], {True: 0, False: 0}
        for _ in range(60):
            log = some_log(chance, 8)
            for position, entry in enumerate(log):
                if entry[0] == "write":
                    paths = {path: ids for _, path, ids in defined_paths(log, position)}
                    known = sorted({pair for path in paths for pair in path})
                    for _ in range(60):
                        pairs = known + [(chance.choice(readers), chance.choice(CELLS))]
                        value = tuple(chance.choice(pairs) for _ in range(chance.randint(1, 3)))
                        found[value in paths] += 1
                        if value in paths:
                            self.assertEqual(paths[value], retractions_for(log, entry[1], value))
                        else:
                            self.check_no_path(log, entry[1], value)
        self.assertGreater(min(found.values()), 100, found)

    def test_the_longest_path(self):
        log = chain(60, 99)
        path = tuple((f"w{number}", "a") for number in range(1, 60)) + (("", "a"),)
        self.assertEqual([], retractions_for(log, "w0", path))
        self.assertEqual(["w1"], retractions_for(log, "w0", path[1:]))
        odd = [f"w{number}" for number in range(1, 60, 2)]
        self.assertEqual(odd, retractions_for(log, "w0", path[1::2]))
        self.check_no_path(log, "w0", path[:-1])
        self.check_no_path(log, "w1", path)

    def test_any_value(self):
        for value in ANY_VALUES:
            self.check_no_path(LOG, "w1", value)
            self.check_no_path(LOG, "w1", (value,))
            self.check_no_path(LOG, "w1", (("w2", "a"), value))
            self.check_no_path(LOG, "w1", (("q2", "a"), value))
            self.check_no_path(LOG, "w1", (value, ("q2", "a")))

    def test_any_value_in_a_pair(self):
        for value in ANY_VALUES:
            if value != "a":
                self.check_no_path(LOG, "w1", (("q2", value),))
                self.check_no_path(LOG, "w1", (("", value),) if value != "b" else ())
                self.check_no_path(LOG, "w1", (("w2", value), ("q2", "a")))
            if value != "":
                self.check_no_path(LOG, "w1", ((value, "a"),))
                self.check_no_path(LOG, "w1", (("w2", "a"), (value, "a")))
            self.check_no_path(LOG, "w1", (("q2", "a", value),))
            self.check_no_path(LOG, "w1", ((value, "q2", "a"),))

    def test_the_empty_tuple(self):
        self.check_no_path(LOG, "w1", ())
        self.check_no_path(LOG, "s2", ())

    def test_lists_are_not_tuples(self):
        self.check_no_path(LOG, "w1", [("q2", "a")])
        self.check_no_path(LOG, "w1", (["q2", "a"],))
        self.check_no_path(LOG, "w1", ("q2", "a"))
        self.check_no_path(LOG, "w1", (("w2", "a"), ["q2", "a"]))
        self.check_no_path(LOG, "w1", ((("q2", "a"),),))

    def test_edges_that_cannot_be_used(self):
        self.check_no_path(LOG, "w1", (("q2", "b"),))
        self.check_no_path(LOG, "w1", (("", "b"),))
        self.check_no_path(LOG, "w1", (("w3", "b"), ("w4", "d"), ("", "a")))
        self.check_no_path(LOG, "w2", (("", "c"),))
        self.assertEqual([], retractions_for(LOG, "w1", (("s1", "b"), ("", "b"))))

    def test_a_path_ends_at_the_first_query_or_the_end(self):
        self.check_no_path(LOG, "w1", (("w2", "a"),))
        self.check_no_path(LOG, "w1", (("w2", "a"), ("w3", "c")))
        self.check_no_path(LOG, "w1", (("q1", "a"), ("", "a")))
        self.check_no_path(LOG, "w1", (("q1", "a"), ("q2", "a")))
        self.check_no_path(LOG, "w1", (("q2", "a"), ("q2", "a")))
        self.check_no_path(LOG, "w1", (("", "a"), ("", "a")))
        self.check_no_path(LOG, "w1", (("", "a"), ("q2", "a")))

    def test_edges_lead_to_later_readers_of_the_cell(self):
        self.check_no_path(LOG, "w4", (("w3", "a"), ("", "d")))
        self.check_no_path(LOG, "w2", (("w2", "a"), ("q1", "a")))
        self.check_no_path(LOG, "w4", (("q1", "a"),))
        self.check_no_path(LOG, "w1", (("w4", "a"), ("q2", "a")))
        self.check_no_path(LOG, "w1", (("q2", "c"),))
        self.check_no_path(LOG, "w1", (("w2", "b"), ("q2", "a")))
        self.check_no_path(LOG, "w1", (("w9", "a"), ("q2", "a")))

    def test_a_path_of_another_write(self):
        self.assertEqual(["w4"], retractions_for(LOG, "w2", (("q2", "a"),)))
        self.check_no_path(LOG, "w2", (("w2", "a"), ("", "a")))
        self.check_no_path(LOG, "w3", (("q2", "a"),))

    def test_invalid_log_comes_first(self):
        for log in NO_LOGS:
            for others in (("w1", (("", "a"),)), (None, None), ("q1", ())):
                self.check_error(InvalidLog, None, None, retractions_for, log, *others)

    def test_ids_that_are_not_those_of_a_write(self):
        for value in NO_IDS + ["q1", "q2", "w9", LOG[0]]:
            for path in ((("", "a"),), None, (), [("", "a")]):
                self.check_error(UnknownId, "entry_id", value, retractions_for, LOG, value, path)

    def test_the_documented_names(self):
        self.assertEqual(["w2", "w4"], retractions_for(path=(("q2", "a"),), entry_id="w1", log=LOG))

    def test_each_list_is_new(self):
        self.check_fresh(retractions_for, LOG, "w1", (("q2", "a"),))
        self.check_fresh(retractions_for, LOG, "w1", (("w2", "a"), ("q1", "a")))


class Guarantees(unittest.TestCase):
    def test_the_last_reader_depends_on_the_write(self):
        chance = random.Random(11)
        for _ in range(120):
            log = some_log(chance, 9)
            for position, entry in enumerate(log):
                if entry[0] == "write":
                    for _, path, _ in defined_paths(log, position)[:30]:
                        retracted = retractions_for(log, entry[1], path)
                        self.assertIn(entry[1], dependency_set(log, path[-1], retracted=retracted), (log, path))

    def test_no_cheaper_retractions_do_it(self):
        chance = random.Random(12)
        for _ in range(60):
            log = some_log(chance, 7)
            least = {entry_id: None for entry_id in ids_of(log, "write")}
            for price, retracted in retractions_of(log):
                for target in targets_of(log):
                    for entry_id in dependency_set(log, target, retracted=retracted):
                        if least[entry_id] is None or price < least[entry_id]:
                            least[entry_id] = price
            self.assertEqual(least, all_costs(log), log)

    def test_an_edge_that_cannot_be_used_never_does_it(self):
        log = (("write", "w1", (), ("a",), 2), ("write", "s1", (), ("a",), None), ("write", "w2", (), ("a",), 1))
        self.assertFalse(is_usable(defined_edges(log, 0)[0]))
        for _, retracted in retractions_of(log):
            self.assertNotIn("w1", dependency_set(log, ("", "a"), retracted=retracted))


if __name__ == "__main__":
    unittest.main()
