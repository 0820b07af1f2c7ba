"""Tests of neverwas.console: [12.1] and, as far as it reaches, [0.3]."""

import random
import unittest

from helper import same, some_command, targets_of
from neverwas.compaction import explanation
from neverwas.console import Console
from neverwas.dependencies import dependency_set
from neverwas.errors import LogError
from neverwas.histories import certainty
from neverwas.store import Store
from neverwas.texts import format_log
from neverwas.verdicts import verdicts
from test_texts import NO_QUERIES, NO_WRITES

NAMES = ("retract", "restore", "seal", "drop", "commit")
NUMBERS = {
    "0": 0, "7": 7, "10": 10, "999": 999, "1000": 1000, "123456789": 123456789, "999999999": 999999999,
}
NO_NUMBERS = ["00", "01", "007", "0999", "1000000000", "1" * 5000, "-1", "+1", "1.0", "a", "1a", "1_0", "-", "--"]
# The words of [8.2] as lines; W is retracted.
LINES = [
    "store 0", "write d 1 reads writes c", "query qd c", "write f 1 reads writes c", "write z 1 reads writes a",
    "query q0 a", "write w 1 reads writes a", "write g 1 reads writes e", "query q a",
]


def console_with(*lines):
    console = Console()
    for line in lines:
        answer = console.run(line)
        assert answer in ("ok", "-"), (line, answer)
    return console


def told(store, command):
    """Return the line for a store's command."""
    name, argument = command
    if name == "add":
        return format_log((argument,))[:-1].split("\n")[1]
    return f"{'budget' if name == 'lower_budget' else name} {argument}"


class Twin:
    """What the console answers, by the words of [12.1], from a store and the functions of the earlier stages."""

    def __init__(self, budget):
        self.store = Store(budget)

    def listed(self, words):
        return " ".join(words) if words else "-"

    def guarded(self, call):
        try:
            return call()
        except LogError as error:
            return f"error {type(error).__name__.lower()}"

    def command(self, command):
        return self.guarded(lambda: self.listed(self.store.apply_all([command])))

    def ask(self, target):
        def call():
            exact, _ = self.store.dependencies(target)
            found = dependency_set(self.store.log(), target, retracted=self.store.retracted())
            return ("exact " if exact else "open ") + self.listed(found)
        return self.guarded(call)

    def certain(self, target):
        def call():
            log, others = self.store.log(), {"budget": self.store.budget(), "retracted": self.store.retracted()}
            if certainty(log, target, **others)[0] == "certain":
                return "certain"
            found = verdicts(log, target, **others)
            return "uncertain " + self.listed([name for name, verdict in found.items() if verdict == "always"])
        return self.guarded(call)

    def explain(self, name):
        def call():
            value = explanation(self.store.log(), name, budget=self.store.budget())
            return "kept " + self.listed(value[2])
        return self.guarded(call)

    def show(self):
        return " / ".join(format_log(self.store.log(), budget=self.store.budget()).split("\n")[:-1])

    def price(self):
        return f"{self.store.retracted_price()} {self.store.budget()}"


class Lines(unittest.TestCase):
    def check(self, expected, console, line):
        """The line gives this answer, and if it is an error or no form, nothing changes."""
        shown = [console.run(word) for word in ("show", "price")]
        answer = console.run(line)
        self.assertTrue(same(expected, answer), (line, answer))
        if answer.split(" ")[0] in ("error", "unknown", "no"):
            self.assertEqual(shown, [console.run(word) for word in ("show", "price")])

    def test_the_example(self):
        console = Console()
        self.assertEqual(("ok", "-"), (console.run("store 0"), console.run("write w1 2 reads writes a")))
        found = [console.run(line) for line in ("write w3 4 reads writes a", "ask a", "seal w9")]
        self.assertTrue(same(["w1", "exact w3", "error unknownid"], found))

    def test_each_form(self):
        for line, answer in (
            ("store 9", "ok"), ("show", "budget 9"), ("price", "0 9"), ("write w1 2 reads writes a", "-"),
            ("query q1 a b", "-"), ("write w2 4 reads writes a", "-"), ("write w3 - reads a writes b", "-"),
            ("ask b", "exact w2 w3"), ("ask q1 a", "exact w1"), ("ask q1 b", "exact -"), ("ask zzzz", "exact -"),
            ("certain b", "certain"), ("certain q1 b", "certain"), ("explain w1", "kept -"), ("retract w2", "-"),
            ("price", "4 9"), ("ask b", "exact w1 w3"), ("retract gone", "-"), ("price", "4 9"), ("drop q1", "-"),
            ("explain w1", "kept w2"), ("explain w3", "kept -"), ("budget 5", "-"), ("budget 4", "-"),
            ("budget 3", "w1"), ("ask b", "open w3"), ("certain b", "uncertain w3"), ("certain a", "uncertain -"),
            ("show", "budget 3 / write w2 4 reads writes a / write w3 - reads a writes b"), ("price", "4 3"),
            ("restore w2", "-"), ("ask b", "exact w2 w3"), ("certain b", "certain"), ("write w4 1 reads writes a", "-"),
            ("commit w4", "-"), ("price", "0 2"), ("seal w2", "-"), ("seal w2", "error sealedwrite"),
            ("show", "budget 2 / write w2 - reads writes a / write w3 - reads a writes b"), ("budget 0", "-"),
            ("store 1", "ok"), ("show", "budget 1"), ("ask b", "exact -"),
        ):
            if line == "store 9":
                console = Console()
                self.assertEqual("ok", console.run(line))
            else:
                self.check(answer, console, line)

    def test_several_deleted_ids(self):
        console = console_with("store 9", *[f"write w{number} 3 reads writes a" for number in range(4)])
        self.check("w0 w1 w2", console, "seal w3")
        console = console_with("store 9", *[f"write w{number} 3 reads writes a" for number in range(4)])
        self.check("w0", console, "write w4 3 reads writes a")
        self.check("w1 w2", console, "budget 3")
        self.check("error unknownid", console, "explain w0")

    def test_several_retractions(self):
        console = console_with("store 9", *[f"write w{number} 3 reads writes a" for number in range(4)])
        self.check("kept w1 w2 w3", console, "explain w0")
        for name in ("w3", "w1", "w2"):
            self.check("-", console, f"retract {name}")
        # explain takes no account of what is retracted.
        self.check("kept w1 w2 w3", console, "explain w0")
        self.check("kept -", console, "explain w3")
        self.check("exact w0", console, "ask a")

    def test_the_log_of_8_2(self):
        console = console_with(*LINES, "retract w")
        self.check("open z", console, "ask q a")
        self.check("uncertain -", console, "certain q a")
        self.check("certain", console, "certain q0 a")
        self.check("certain", console, "certain qd c")
        self.check("1 0", console, "price")
        self.check(" / ".join(["budget 0", *LINES[1:]]), console, "show")
        self.check("-", console, "write x 1 reads a writes b")
        self.check("uncertain x", console, "certain b")

    def test_before_the_first_store(self):
        for line in [
            "", " ", "show", "price", "ask a", "ask q a", "certain a", "explain w1", "budget 5", "nothing", "store",
            "store ", "store  5", " store 5", "store 5 ", "store 5 5", "Store 5", "stores 5", "retract w1", "ok",
            *LINES[1:], *[f"store {word}" for word in NO_NUMBERS], *NO_QUERIES, *NO_WRITES,
        ]:
            console = Console()
            self.assertTrue(same("no store", console.run(line)), line)
            self.assertEqual("no store", console.run("show"))

    def test_store(self):
        for word, number in NUMBERS.items():
            console = Console()
            if number <= 999:
                self.assertTrue(same("ok", console.run(f"store {word}")))
                self.assertEqual(f"budget {number}", console.run("show"))
            else:
                self.assertTrue(same("error invalidbudget", console.run(f"store {word}")))
                self.assertEqual("no store", console.run("show"))

    def test_a_store_replaces_an_existing_one(self):
        console = console_with(*LINES, "retract w")
        for word in ("1000", "999999999"):
            self.check("error invalidbudget", console, f"store {word}")
        for word in NO_NUMBERS:
            self.check("unknown", console, f"store {word}")
        self.assertEqual("ok", console.run("store 5"))
        self.assertEqual(("budget 5", "0 5"), (console.run("show"), console.run("price")))
        self.check("error unknownid", console, "restore w")
        self.check("-", console, "write d 1 reads writes c")

    def test_two_consoles(self):
        one, other = console_with(*LINES), Console()
        self.assertEqual("no store", other.run("show"))
        self.assertEqual("ok", other.run("store 3"))
        self.assertEqual("budget 3", other.run("show"))
        self.check("exact w", one, "ask a")

    def test_lines_without_a_form(self):
        console = console_with(*LINES)
        lines = ["", " ", "  ", "nothing", "ok", "-", "Show", "add", "lower_budget 5", "notes", "apply_all", "log"]
        for first in NAMES + ("explain", "ask", "certain", "budget", "store"):
            lines += [first, first + " ", f" {first} w", f"{first} w ", f"{first}  w", f"{first} w  w"]
            lines += [first.upper() + " w", f"{first} 1 1 1 1", f"{first}w 1"]
        for first in NAMES + ("explain", "budget", "store"):
            lines += [f"{first} w w", f"{first} q a"]
        for first in ("ask", "certain"):
            lines += [f"{first} q a a", f"{first} q  a", f"{first} q a "]
        for first in ("show", "price"):
            lines += [f"{first} ", f" {first}", f"{first} 1", f"{first} show", f"{first} -"]
        lines += [f"budget {word}" for word in NO_NUMBERS]
        for line in lines + NO_QUERIES + NO_WRITES:
            self.check("unknown", console, line)

    def test_id_and_cell_may_be_any_words(self):
        console = console_with(*LINES, "retract w")
        for word in ("w9", "A", "-", "q1", "write", "query", "store", "abcdefg", "w,", "_", "1", "01", "'", "\"", "()"):
            for name in NAMES[1:]:
                self.check("error unknownid", console, f"{name} {word}")
            self.check("error unknownid", console, f"explain {word}")
            self.check("error unknownid", console, f"ask {word} a")
            self.check("error unknownid", console, f"certain {word} A")
            self.check("error unknowncell", console, f"ask q {word}")
            self.check("error unknowncell", console, f"certain q {word}")
        for word in ("A", "-", "abcdefg", "w,", "_", "'", "(w)"):
            self.check("error unknownid", console, f"retract {word}")
        for word in ("A", "-", "abcde", "w1", "write", "1", "'"):
            self.check("error unknowncell", console, f"ask {word}")
            self.check("error unknowncell", console, f"certain {word}")
        for line in ("ask w c", "certain d c", "explain q", "retract q", "seal q", "commit q", "drop w", "restore q"):
            self.check("error unknownid", console, line)
        self.check("-", console, "retract ask")
        self.check("-", console, "retract 01")
        self.check("exact -", console_with("store 1"), "ask ask")
        self.check("certain", console_with("store 1"), "certain show")

    def test_errors(self):
        console = console_with("store 3", "write w1 3 reads writes a", "query q a", "write s - reads writes b")
        for line, answer in (
            ("write w1 1 reads writes z", "error duplicateid"), ("query s a", "error duplicateid"),
            ("retract s", "error sealedwrite"), ("retract q", "error unknownid"), ("seal s", "error sealedwrite"),
            ("commit s", "error sealedwrite"), ("drop s", "error unknownid"), ("restore w1", "error unknownid"),
            ("budget 4", "error invalidbudget"), ("budget 1000", "error invalidbudget"),
            ("budget 999999999", "error invalidbudget"),
            ("retract w1", "-"), ("retract w1", "error duplicateid"), ("seal w1", "error duplicateid"),
            ("retract x", "-"), ("write x - reads writes a", "error sealedwrite"), ("query x a", "error unknownid"),
            ("write x 9 reads writes c", "-"), ("price", "12 3"), ("commit x", "error invalidbudget"),
        ):
            self.check(answer, console, line)

    def test_sixty_entries(self):
        console = console_with("store 999", *[f"query q{number} a" for number in range(60)])
        self.check("error invalidlog", console, "query q60 a")
        self.check("error invalidlog", console, "write w1 1 reads writes a")
        self.check("error duplicateid", console, "query q7 a")
        self.check("-", console, "drop q7")
        self.check("-", console, "query q60 a")
        self.assertEqual(61, len(console.run("show").split(" / ")))

    def test_numbers_of_up_to_nine_digits(self):
        for word, number in NUMBERS.items():
            console = console_with("store 999")
            self.check("-" if number <= 999 else "error invalidbudget", console, f"budget {word}")
            self.check(f"0 {number if number <= 999 else 999}", console, "price")

    def test_any_sequence_of_lines(self):
        chance = random.Random(101)
        counts = {}
        for _ in range(300):
            budget = chance.choice([0, 0, 1, 3, 8])
            console, twin = Console(), Twin(budget)
            self.assertEqual("ok", console.run(f"store {budget}"))
            for number in range(40):
                line, expected = self.some_line(chance, twin, number)
                answer = console.run(line)
                self.assertTrue(same(expected, answer), (line, answer))
                self.assertEqual([word for word in answer.split(" ") if word], answer.split(" "))
                counts[answer.split(" ")[0]] = counts.get(answer.split(" ")[0], 0) + 1
        for word in ("-", "exact", "open", "certain", "uncertain", "kept", "error", "budget", "unknown"):
            self.assertGreater(counts[word], 20, word)

    def some_line(self, chance, twin, number):
        """Return a made-up line, and what the console is to answer."""
        kinds = ["command"] * 6 + ["ask"] * 2 + ["certain"] * 3 + ["explain", "show", "price", "other"]
        kind = chance.choice(kinds)
        reader, cell = chance.choice(targets_of(twin.store.log()) + [("q9", "a"), ("", "A")])
        names = [entry[1] for entry in twin.store.log()] + ["w9"]
        if kind == "command":
            command = some_command(chance, twin.store, number)
            if command[1] in ("", "a b", -1):
                return f"{command[0]} ", "unknown"
            return told(twin.store, command), twin.command(command)
        if kind in ("ask", "certain"):
            answer = twin.ask((reader, cell)) if kind == "ask" else twin.certain((reader, cell))
            return " ".join([kind] + ([reader] if reader else []) + [cell]), answer
        if kind == "explain":
            name = chance.choice(names)
            return f"explain {name}", twin.explain(name)
        if kind == "show":
            return "show", twin.show()
        if kind == "price":
            return "price", twin.price()
        return chance.choice(["", "query q  a", "show all", "seal", "budget 01", "ask"]), "unknown"


if __name__ == "__main__":
    unittest.main()
