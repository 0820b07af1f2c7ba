"""Tests of neverwas.texts: [11.1], guarantee (g) of [0.2] and, as far as it reaches, [0.3]."""

import random
import re
import unittest

from helper import ANY_VALUES, NO_BUDGETS, Checks, busy_log, same, some_log
from neverwas.errors import InvalidBudget, InvalidLog, ParseError
from neverwas.logs import is_log
from neverwas.texts import format_log, parse_log
from neverwas.verdicts import reachable_positions, verdicts

LOG = (
    ("write", "w1", (), ("a",), None),
    ("query", "q1", ("a", "b")),
    ("write", "w2", ("a", "b", "zzzz"), ("abcd", "b", "c"), 99),
    ("write", "0", ("a",), ("a",), 1),
)
TEXT = (
    "budget 12\nwrite w1 - reads writes a\nquery q1 a b\nwrite w2 99 reads a b zzzz writes abcd b c\n"
    "write 0 1 reads a writes a\n"
)
NO_LOGS = [value for value in ANY_VALUES if not same(value, ())] + [list(LOG), LOG + LOG[:1], LOG[0]]
BUDGET_LINE = re.compile("budget (0|[1-9][0-9]{0,2})")
QUERY_LINE = re.compile("query ([a-z0-9]{1,6})((?: [a-z]{1,4}){1,3})")
WRITE_LINE = re.compile(
    "write ([a-z0-9]{1,6}) (-|[1-9][0-9]?) reads((?: [a-z]{1,4}){0,3}) writes((?: [a-z]{1,4}){1,3})"
)
NO_QUERIES = [
    "query", "query ", "query q", "query q ", "query  q a", " query q a", "query q a ", "query q  a", "query q a  b",
    "query q b a", "query q a a", "query q a b c d", "query Q a", "query q A", "query q abcde", "query abcdefg a",
    "query q a,b", "query q a1", "query q -", "query - a", "Query q a", "querys q a", "q a", "query\tq a", "query q\ta",
    "query q a b reads", "query q writes", "query q_ a", "query q query",
]
NO_WRITES = [
    "write", "write w", "write w 1", "write w 1 reads", "write w 1 reads writes", "write w 1 writes a",
    "write w 1 reads a", "write w 1 reads a writes", "write w 1 reads  writes a", "write w 1 reads writes  a",
    "write w 1 reads writes a ", " write w 1 reads writes a", "write  w 1 reads writes a", "write w  1 reads writes a",
    "write w 1  reads writes a", "write w 1 reads a  writes a", "write w 1 reads a writes a  b",
    "write w 0 reads writes a", "write w 01 reads writes a", "write w 100 reads writes a", "write w -1 reads writes a",
    "write w +1 reads writes a", "write w 1.0 reads writes a", "write w -- reads writes a",
    "write w None reads writes a", "write w 00 reads writes a", "write w 1_0 reads writes a",
    "write w 1234567890 reads writes a", "write w a reads writes a",
    "write W 1 reads writes a", "write abcdefg 1 reads writes a", "write - 1 reads writes a",
    "write w 1 reads writes A",
    "write w 1 reads writes abcde", "write w 1 reads abcde writes a", "write w 1 reads writes b a",
    "write w 1 reads b a writes a", "write w 1 reads a a writes a", "write w 1 reads writes a a",
    "write w 1 reads a b c d writes a", "write w 1 reads writes a b c d", "write w 1 reads writes writes",
    "write w 1 reads writes a writes", "write w 1 reads writes writes a", "write w 1 reads reads writes a",
    "write w 1 writes a reads b", "write w 1 Reads writes a", "write w 1 reads Writes a", "write w 1 read writes a",
    "write w 1 reads write a", "write w 1 reads writes -", "write w reads writes a", "write 1 reads writes a",
    "write w 1 reads a b writes", "write w - - reads writes a", "write w  reads writes a", "Write w 1 reads writes a",
]
NO_BUDGET_LINES = [
    "", " ", "budget", "budget ", "budget  1", " budget 1", "budget 1 ", "budget 01", "budget 00", "budget 1000",
    "budget 1234567890", "budget -1", "budget +1", "budget 1.0", "budget a", "budget 1 2", "Budget 1", "budgets 1", "1",
    "budget\t1", "query q1 a", "write w1 1 reads writes a", "budget 1_0", "budget 999999999", "budget -", "store 1",
]


def are_cells(text):
    cells = text.split()
    return cells == sorted(set(cells))


def defined_parse(text):
    """Return (log, budget), or the number of the line at fault, by the words of [11.1]."""
    if text == "":
        return 0
    lines = text[:-1].split("\n") if text.endswith("\n") else text.split("\n")
    log = []
    for number, line in enumerate(lines):
        budget, query, write = BUDGET_LINE.fullmatch(line), QUERY_LINE.fullmatch(line), WRITE_LINE.fullmatch(line)
        entry = None
        if query and are_cells(query[2]):
            entry = ("query", query[1], tuple(query[2].split()))
        if write and are_cells(write[3]) and are_cells(write[4]):
            price = None if write[2] == "-" else int(write[2])
            entry = ("write", write[1], tuple(write[3].split()), tuple(write[4].split()), price)
        if number == 0 and budget:
            found = int(budget[1])
        elif number > 0 and entry and len(log) < 60 and entry[1] not in [other[1] for other in log]:
            log.append(entry)
        else:
            return number
    return (tuple(log), found) if text.endswith("\n") else len(lines)


class Examples(Checks, unittest.TestCase):
    def test_format_log(self):
        log = (("write", "w1", (), ("a",), None), ("query", "q1", ("a", "b")))
        self.assertEqual("budget 12\nwrite w1 - reads writes a\nquery q1 a b\n", format_log(log, budget=12))

    def test_parse_log(self):
        self.check_error(ParseError, "line", 1, parse_log, "budget 1\nquery q1 b a\n")

    def test_the_text_of_8_2(self):
        text = (
            "budget 0\nwrite d 1 reads writes c\nquery qd c\nwrite f 1 reads writes c\nwrite z 1 reads writes a\n"
            "query q0 a\n"
        )
        log, budget = parse_log(text + "write w 1 reads writes a\nwrite g 1 reads writes e\nquery q a\n")
        found = verdicts(log, ("q", "a"), budget=budget, retracted=["w"])
        self.assertTrue(same({"d": "sometimes", "f": "sometimes", "z": "sometimes", "g": "never"}, found))
        found = reachable_positions(log, ("q", "a"), budget=budget, retracted=["w"])
        self.assertTrue(same([0, 1, 2, 3, 4, 5], found))


class Format(Checks, unittest.TestCase):
    def test_one_line_per_entry(self):
        self.assertEqual(TEXT, format_log(LOG, budget=12))
        self.assertEqual(TEXT, format_log(budget=12, log=LOG))

    def test_budgets(self):
        for budget in (0, 9, 10, 100, 999):
            self.assertEqual(f"budget {budget}\n", format_log((), budget=budget))
        self.assertEqual("budget 10\n", format_log(()))
        with self.assertRaises(TypeError):
            format_log((), 5)

    def test_errors_in_their_order(self):
        for log in NO_LOGS:
            for budget in (0, -1, None):
                self.check_error(InvalidLog, None, None, format_log, log, budget=budget)
        for value in NO_BUDGETS:
            self.check_error(InvalidBudget, None, None, format_log, LOG, budget=value)


class Parse(Checks, unittest.TestCase):
    def check(self, line, text):
        self.check_error(ParseError, "line", line, parse_log, text)

    def test_one_entry_per_line(self):
        self.assertTrue(same((LOG, 12), parse_log(TEXT)))
        self.assertTrue(same((LOG, 12), parse_log(text=TEXT)))

    def test_any_value_that_is_no_string(self):
        for value in ANY_VALUES + [[TEXT], (TEXT,), TEXT.split("\n")]:
            if not isinstance(value, str):
                self.check(0, value)

    def test_any_string(self):
        for value in ANY_VALUES:
            if isinstance(value, str):
                self.check(0, value)
                self.check(0, value + "\n" + TEXT)

    def test_budgets_from_0_to_999(self):
        for budget in (0, 1, 9, 10, 99, 100, 998, 999):
            self.assertTrue(same(((), budget), parse_log(f"budget {budget}\n")))

    def test_a_first_line_without_a_budget(self):
        for line in NO_BUDGET_LINES:
            for rest in ("\n", "", "\nquery q1 a\n", "\nbudget 1\n", "\nnothing\n"):
                self.check(0, line + rest)

    def test_a_budget_in_another_place(self):
        self.check(1, "budget 1\nbudget 1\n")
        self.check(2, "budget 1\nquery q1 a\nbudget 1\nquery q1 a\n")

    def test_lines_that_are_no_query(self):
        for line in NO_QUERIES:
            self.check(1, f"budget 1\n{line}\n")
            self.check(3, f"budget 1\nquery q1 a\nquery q2 a\n{line}\nquery q1 a\n")
            self.check(2, f"budget 1\nquery q1 a\n{line}")

    def test_lines_that_are_no_write(self):
        for line in NO_WRITES:
            self.check(1, f"budget 1\n{line}\n")
            self.check(3, f"budget 1\nquery q1 a\nquery q2 a\n{line}\nquery q1 a\n")
            self.check(2, f"budget 1\nquery q1 a\n{line}")

    def test_other_lines(self):
        for line in ["", " ", "-", "store 1", "retract w1", "ask a", "budget 1", "#", "reads", "end"]:
            self.check(1, f"budget 1\n{line}\n")
            self.check(2, f"budget 1\nquery q1 a\n{line}\nquery q2 a\n")

    def test_ids_that_are_words_of_the_format(self):
        for name in ("write", "query", "budget", "reads", "writes", "1", "99", "01", "ask", "end"):
            log = (("write", name, ("a",), ("a",), 1), ("query", "q1" if name != "q1" else "q2", ("a",)))
            self.assertTrue(same((log, 7), parse_log(f"budget 7\nwrite {name} 1 reads a writes a\nquery q1 a\n")))
            self.assertTrue(same(((("query", name, ("a",)),), 7), parse_log(f"budget 7\nquery {name} a\n")))
            self.assertTrue(same((log, 7), parse_log(format_log(log, budget=7))))

    def test_cells_like_words(self):
        log = (("write", "w", ("ask", "seal"), ("drop", "read", "show"), 1), ("query", "q", ("all", "none")))
        self.assertTrue(same((log, 10), parse_log(format_log(log))))
        # These words have more letters than a cell.
        for word in ("reads", "writes", "query", "budget", "write"):
            self.check(1, f"budget 1\nquery q {word}\n")
            self.check(1, f"budget 1\nwrite w 1 reads {word} writes a\n")
            self.check(1, f"budget 1\nwrite w 1 reads writes a {word}\n")

    def test_numbers_of_very_many_digits(self):
        for digits in ("1" * 10, "1" * 100, "1" * 5000, "0" * 5000):
            self.check(0, f"budget {digits}\n")
            self.check(1, f"budget 1\nwrite w {digits} reads writes a\n")

    def test_prices(self):
        for price in (1, 9, 10, 99):
            log = (("write", "w", (), ("a",), price),)
            self.assertTrue(same((log, 0), parse_log(f"budget 0\nwrite w {price} reads writes a\n")))

    def test_a_duplicate_id(self):
        self.check(2, "budget 1\nquery q1 a\nquery q1 b\n")
        self.check(3, "budget 1\nquery q1 a\nquery q2 a\nwrite q1 1 reads writes a\nquery q2 a\n")
        self.check(2, "budget 1\nwrite w1 1 reads writes a\nwrite w1 1 reads writes a")

    def test_60_and_61_entries(self):
        lines = [f"query q{number} a\n" for number in range(70)]
        for count in (59, 60):
            log, budget = parse_log("budget 3\n" + "".join(lines[:count]))
            self.assertEqual((count, 3), (len(log), budget))
            self.assertTrue(is_log(log))
        for count in (61, 62, 70):
            self.check(61, "budget 3\n" + "".join(lines[:count]))
        self.check(61, "budget 3\n" + "".join(lines[:61])[:-1])
        self.check(61, "budget 3\n" + "".join(lines[:60])[:-1])
        self.check(5, "budget 3\n" + "".join(lines[:4]) + "nothing\n" + "".join(lines[4:]))

    def test_a_missing_last_newline(self):
        self.check(1, "budget 1")
        self.check(2, "budget 1\nquery q1 a")
        self.check(5, TEXT[:-1])
        # An unfinished line that has no form of its own is at fault itself.
        self.check(4, TEXT[:-2])
        self.check(1, "budget 1\n ")
        self.check(0, "budge")
        self.check(0, "\n")
        self.check(1, "budget 1\n\n")
        self.check(5, TEXT + "\n")
        self.check(0, "")

    def test_a_blank_too_many(self):
        for at, sign in enumerate(TEXT):
            if sign in " \n":
                line = TEXT[:at].count("\n")
                self.check(line, TEXT[:at] + " " + TEXT[at:])
        for at in [0] + [at + 1 for at, sign in enumerate(TEXT[:-1]) if sign == "\n"]:
            self.check(TEXT[:at].count("\n"), TEXT[:at] + " " + TEXT[at:])

    def test_parsing_a_formatted_log(self):
        chance = random.Random(91)
        for log in [some_log(chance, 20) for _ in range(300)] + [(), LOG, busy_log(), busy_log(None)]:
            for budget in (0, 7, 999):
                text = format_log(log, budget=budget)
                self.assertTrue(same((log, budget), parse_log(text)))
                self.assertTrue(same((log, budget), defined_parse(text)))

    def test_made_up_texts(self):
        chance = random.Random(92)
        words = ["write", "query", "budget", "reads", "writes", "a", "b", "c", "w1", "q1", "1", "0", "-", "99"]
        words += ["", "A", "01"]
        counts = {True: 0, False: 0}
        for _ in range(4000):
            text = format_log(some_log(chance, 6), budget=chance.choice([0, 5, 999]))
            for _ in range(chance.randint(0, 2)):
                at = chance.randint(0, len(text))
                text = text[:at] + chance.choice([" ", "\n", "", *words]) + text[at + chance.choice([0, 0, 1, 2]):]
            self.check_text(text, counts)
        for _ in range(2000):
            line = " ".join(chance.choice(words) for _ in range(chance.randint(1, 4)))
            text = "budget 1\n" + chance.choice(["query q a\n", "write w 1 reads a writes a\n"]) + line + "\n"
            self.check_text(text, counts)
            for word in ("query q", "write w 1 reads", "write w - reads a writes"):
                self.check_text(f"budget 1\n{word} {line}\n", counts)
        self.assertGreater(min(counts.values()), 500)

    def check_text(self, text, counts):
        expected = defined_parse(text)
        counts[isinstance(expected, tuple)] += 1
        if isinstance(expected, tuple):
            self.assertTrue(same(expected, parse_log(text)), text)
            self.assertTrue(is_log(parse_log(text)[0]))
            # There is one text for each log and budget.
            self.assertEqual(text, format_log(expected[0], budget=expected[1]))
        else:
            self.check(expected, text)


if __name__ == "__main__":
    unittest.main()
