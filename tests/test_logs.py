"""Tests of neverwas.logs: [1.1] to [1.6] and, as far as it reaches, [0.3]."""

import unittest

from helper import ANY_VALUES, CELLS, IDS, NO_CELLS, NO_IDS, NO_STRINGS, STRINGS, Checks, same
from neverwas.errors import InvalidLog, UnknownCell, UnknownId
from neverwas.logs import entry_of, is_entry, is_log, position_of, readers_of, writers_of

WRITE = ("write", "w1", ("a",), ("b",), 2)
QUERY = ("query", "q1", ("a",))
LOG = (
    ("write", "w1", (), ("a", "b"), 2),
    ("query", "q1", ("a", "c")),
    ("write", "w2", ("a", "d"), ("b", "c"), None),
    ("write", "w3", ("b",), ("a", "b"), 99),
    ("query", "q2", ("b",)),
)
GOOD_TUPLES = [("a",), ("abcd",), ("a", "b"), ("a", "aa", "b"), ("a", "ab", "b"), ("x", "y", "z")]
UNORDERED = [("b", "a"), ("aa", "a"), ("b", "aa"), ("a", "c", "b"), ("b", "a", "c"), ("c", "b", "a")]
REPEATED = [("a", "a"), ("a", "a", "b"), ("a", "b", "b"), ("a", "b", "a"), ("a", "a", "a")]
LONG = [("a", "b", "c", "d"), ("a", "b", "c", "d", "e")]
LISTS = [["a"], ["a", "b"], [], [("a",)], (["a"],), (("a",),), {"a": "b"}]
BAD_TUPLES = UNORDERED + REPEATED + LONG + LISTS
BAD_PRICES = [0, -1, 100, 101, 10 ** 39, -(10 ** 39), True, False, "", "1", "-", "None", [], (), {}, [1], (1,), {1: 1}]


def with_place(entry, place, value):
    return entry[:place] + (value,) + entry[place + 1:]


def many_queries(count):
    return tuple(("query", f"q{number}", ("a",)) for number in range(count))


class Entries(unittest.TestCase):
    def check(self, expected, value):
        self.assertIs(expected, is_entry(value), value)
        self.assertIs(expected, is_log((value,)), value)
        self.assertIs(expected, is_log((("query", "before", ("b",)), value, ("query", "behind", ("b",)))), value)

    def test_ordinary_entries(self):
        for entry in (WRITE, QUERY) + LOG:
            self.check(True, entry)

    def test_ids(self):
        for entry in (WRITE, QUERY):
            for entry_id in IDS:
                self.check(True, with_place(entry, 1, entry_id))
            for value in NO_IDS:
                self.check(False, with_place(entry, 1, value))

    def test_cells(self):
        for entry, place in ((WRITE, 2), (WRITE, 3), (QUERY, 2)):
            for cell in CELLS:
                self.check(True, with_place(entry, place, (cell,)))
            for value in NO_CELLS:
                for cells in ((value,), ("a", value), (value, "z"), ("a", value, "z"), ("a", "b", value)):
                    self.check(False, with_place(entry, place, cells))

    def test_tuples_of_cells(self):
        for entry, place in ((WRITE, 2), (WRITE, 3), (QUERY, 2)):
            for cells in GOOD_TUPLES:
                self.check(True, with_place(entry, place, cells))
            for value in BAD_TUPLES:
                self.check(False, with_place(entry, place, value))
            for value in ANY_VALUES:
                if value not in ((), ("a",)):
                    self.check(False, with_place(entry, place, value))

    def test_only_reads_may_be_empty(self):
        self.check(True, ("write", "w1", (), ("b",), 2))
        self.check(False, ("write", "w1", ("a",), (), 2))
        self.check(False, ("write", "w1", (), (), 2))
        self.check(False, ("query", "q1", ()))

    def test_a_cell_may_be_read_and_written(self):
        self.check(True, ("write", "w1", ("a", "b", "c"), ("a", "b", "c"), 2))

    def test_prices(self):
        for price in (1, 2, 50, 98, 99, None):
            self.check(True, with_place(WRITE, 4, price))
        for price in BAD_PRICES:
            self.check(False, with_place(WRITE, 4, price))

    def test_first_words(self):
        for word in ANY_VALUES + ["Write", "writes", "wri", "quer", "Query", "read"]:
            if word != "write":
                self.check(False, with_place(WRITE, 0, word))
            if word != "query":
                self.check(False, with_place(QUERY, 0, word))

    def test_other_lengths(self):
        for entry in (WRITE, QUERY):
            for count in range(len(entry)):
                self.check(False, entry[:count])
            for more in (None, 2, ("c",), "c"):
                self.check(False, entry + (more,))
        self.check(False, QUERY + (("b",), 2))

    def test_lists_are_not_tuples(self):
        for entry in (WRITE, QUERY):
            self.check(False, list(entry))
            for place in (2, 3):
                if place < len(entry):
                    self.check(False, with_place(entry, place, list(entry[place])))

    def test_any_value(self):
        for value in ANY_VALUES:
            self.check(False, value)
            self.check(False, (value,) * 3)
            self.check(False, (value,) * 5)
            self.check(False, ("write", value, value, value, value))
            self.check(False, ("query", value, value))


class Logs(unittest.TestCase):
    def check(self, expected, value):
        self.assertIs(expected, is_log(value), value)

    def test_ordinary_logs(self):
        self.check(True, ())
        self.check(True, LOG)
        self.check(True, LOG[::-1])

    def test_an_entry_is_not_a_log_and_a_log_not_an_entry(self):
        self.check(False, WRITE)
        self.check(False, QUERY)
        self.assertIs(False, is_entry(()))
        self.assertIs(False, is_entry((WRITE,)))
        self.assertIs(False, is_entry(LOG))

    def test_the_example(self):
        first = ("write", "w1", (), ("a",), 2)
        self.check(False, (first, first))
        self.check(True, (first,))

    def test_any_value(self):
        for value in ANY_VALUES:
            self.check(same(value, ()), value)
            if not same(value, ()):
                self.check(False, [value])
                self.check(False, {"a": value})

    def test_lists_are_not_tuples(self):
        self.check(False, [])
        self.check(False, list(LOG))
        self.check(False, tuple(list(entry) for entry in LOG))
        for position in range(len(LOG)):
            self.check(False, with_place(LOG, position, list(LOG[position])))

    def test_any_value_at_any_position(self):
        for position in range(len(LOG)):
            for value in ANY_VALUES:
                self.check(False, with_place(LOG, position, value))

    def test_at_most_60_entries(self):
        for count in (1, 59, 60):
            self.check(True, many_queries(count))
        for count in (61, 62, 100):
            self.check(False, many_queries(count))

    def test_a_duplicate_id_at_any_position(self):
        log = many_queries(60)
        for one in (0, 1, 30, 58):
            for other in range(one + 1, 60):
                self.check(False, with_place(log, other, ("write", f"q{one}", (), ("b",), 1)))
        for one in range(5):
            for other in range(one + 1, 5):
                self.check(False, LOG[:other] + (LOG[one],) + LOG[other:])

    def test_ids_that_look_alike_are_different(self):
        self.check(True, (("query", "1", ("a",)), ("query", "01", ("a",)), ("query", "001", ("a",))))

    def test_the_documented_names(self):
        self.assertIs(True, is_log(value=LOG))
        self.assertIs(True, is_entry(value=WRITE))


class Lookups(Checks, unittest.TestCase):
    def test_the_examples(self):
        self.assertEqual(("query", "q1", ("a", "b")), entry_of((("query", "q1", ("a", "b")),), "q1"))
        self.assertEqual(2, position_of((("write", "w1", (), ("a",), 2), ("query", "q1", ("a",))), ""))
        log = (("write", "w1", (), ("a",), 2), ("write", "w2", (), ("a", "b"), 1))
        self.assertEqual(["w1", "w2"], writers_of(log, "a"))
        self.check_error(UnknownCell, "cell", "A", readers_of, (("query", "q1", ("a",)),), "A")

    def test_entry_of(self):
        for entry in LOG:
            self.assertEqual(entry, entry_of(LOG, entry[1]))
            self.assertEqual(entry, entry_of(LOG[::-1], entry[1]))

    def test_entry_of_has_no_entry_for_the_end(self):
        for log in ((), LOG):
            self.check_error(UnknownId, "entry_id", "", entry_of, log, "")

    def test_position_of(self):
        for position, entry in enumerate(LOG):
            self.assertEqual(position, position_of(LOG, entry[1]))
        for log in ((), LOG, many_queries(60)):
            self.assertEqual(len(log), position_of(log, ""))

    def test_ids_that_are_not_in_the_log(self):
        for call in (entry_of, position_of):
            for log in ((), LOG):
                for value in NO_STRINGS + STRINGS + ["w4", "q", "w", "1"] + [WRITE, LOG, LOG[0]]:
                    if value not in ("", "w1"):
                        self.check_error(UnknownId, "entry_id", value, call, log, value)

    def test_writers_of(self):
        self.assertEqual(["w1", "w3"], writers_of(LOG, "a"))
        self.assertEqual(["w1", "w2", "w3"], writers_of(LOG, "b"))
        self.assertEqual(["w2"], writers_of(LOG, "c"))
        self.assertEqual(["w3", "w2", "w1"], writers_of(LOG[::-1], "b"))

    def test_reading_is_not_writing(self):
        self.assertEqual([], writers_of(LOG, "d"))
        self.assertEqual([], writers_of((QUERY, ("write", "w", ("a",), ("b",), None)), "a"))

    def test_readers_of(self):
        self.assertEqual(["q1", "w2", ""], readers_of(LOG, "a"))
        self.assertEqual(["w3", "q2", ""], readers_of(LOG, "b"))
        self.assertEqual(["q1", ""], readers_of(LOG, "c"))
        self.assertEqual(["w2", ""], readers_of(LOG, "d"))
        self.assertEqual(["w2", "q1", ""], readers_of(LOG[::-1], "a"))

    def test_cells_that_occur_in_no_entry(self):
        for log in ((), LOG):
            for cell in ("z", "abcd", "e"):
                self.assertEqual([], writers_of(log, cell))
                self.assertEqual([""], readers_of(log, cell))

    def test_values_that_are_not_cells(self):
        for call in (writers_of, readers_of):
            for log in ((), LOG):
                for value in NO_CELLS + [("a", "b"), LOG]:
                    self.check_error(UnknownCell, "cell", value, call, log, value)

    def test_invalid_log_comes_first(self):
        for call in (entry_of, position_of, writers_of, readers_of):
            for value in ANY_VALUES + [list(LOG), LOG + LOG[:1], many_queries(61), WRITE]:
                if not same(value, ()):
                    for other in ("w1", "", "a", "A", None, ["a"]):
                        self.check_error(InvalidLog, None, None, call, value, other)

    def test_each_list_is_new(self):
        for cell in ("a", "b", "z"):
            self.check_fresh(writers_of, LOG, cell)
            self.check_fresh(readers_of, LOG, cell)

    def test_the_documented_names(self):
        self.assertEqual(LOG[1], entry_of(entry_id="q1", log=LOG))
        self.assertEqual(1, position_of(entry_id="q1", log=LOG))
        self.assertEqual(["w2"], writers_of(cell="c", log=LOG))
        self.assertEqual(["q1", ""], readers_of(cell="c", log=LOG))


if __name__ == "__main__":
    unittest.main()
