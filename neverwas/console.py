"""A console: lines of words that tell and ask a store."""

from neverwas.compaction import explanation
from neverwas.dependencies import writes_in
from neverwas.errors import LogError
from neverwas.histories import open_gaps
from neverwas.logs import END
from neverwas.store import Store, run_command
from neverwas.texts import entry_in, format_log, number_in
from neverwas.verdicts import verdicts

COMMANDS_OF_AN_ID = ("retract", "restore", "seal", "drop", "commit")


def listed(words):
    """Return the words of a list, or "-" if there is none."""
    return " ".join(words) if words else "-"


def has_number(words, first):
    """Return whether the words are this first one and a number."""
    return len(words) == 2 and words[0] == first and number_in(words[1]) is not None


def command_in(words):
    """Return the store's command that the words give, or None."""
    entry = entry_in(words)
    if entry is not None:
        return ("add", entry)
    if len(words) == 2 and words[0] in COMMANDS_OF_AN_ID:
        return (words[0], words[1])
    if has_number(words, "budget"):
        return ("lower_budget", number_in(words[1]))
    return None


def target_in(words):
    """Return the target that the words behind the first one give."""
    return (END, words[1]) if len(words) == 2 else (words[1], words[2])


def answer_to_ask(store, target):
    """Return the answer to `ask`."""
    exact, triples = store.dependencies(target)
    return ("exact " if exact else "open ") + listed(writes_in(store.log(), triples))


def answer_to_certain(store, target):
    """Return the answer to `certain`."""
    log, budget, retracted = store.log(), store.budget(), store.retracted()
    if not open_gaps(log, target, budget=budget, retracted=retracted):
        return "certain"
    found = verdicts(log, target, budget=budget, retracted=retracted)
    return "uncertain " + listed([entry_id for entry_id, verdict in found.items() if verdict == "always"])


def answer_to(store, words):
    """Return the answer to the words of a line."""
    command = command_in(words)
    if command is not None:
        return listed(run_command(store, command))
    if len(words) in (2, 3) and words[0] == "ask":
        return answer_to_ask(store, target_in(words))
    if len(words) in (2, 3) and words[0] == "certain":
        return answer_to_certain(store, target_in(words))
    if len(words) == 2 and words[0] == "explain":
        # A store keeps only what compaction keeps.
        return "kept " + listed(explanation(store.log(), words[1], budget=store.budget())[2])
    if words == ["show"]:
        return format_log(store.log(), budget=store.budget())[:-1].replace("\n", " / ")
    if words == ["price"]:
        return f"{store.retracted_price()} {store.budget()}"
    return "unknown"


class Console:
    """A store that is told and asked by lines."""

    def __init__(self):
        self._store = None

    def run(self, line):
        """Carry out a line, and return the answer."""
        words = line.split(" ")
        try:
            if has_number(words, "store"):
                self._store = Store(number_in(words[1]))
                return "ok"
            if self._store is None:
                return "no store"
            # Between two blanks, or at an end, there is no word.
            return "unknown" if "" in words else answer_to(self._store, words)
        except LogError as error:
            return "error " + error.__class__.__name__.lower()
