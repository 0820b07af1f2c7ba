"""The text of a log: a line for the budget, and one for each entry."""

from neverwas.compaction import DEFAULT_BUDGET, HIGHEST_BUDGET, check_budget
from neverwas.errors import ParseError
from neverwas.logs import ID, KIND, MOST_ENTRIES, PRICE, READS, WRITES
from neverwas.logs import check_log, is_entry

MOST_DIGITS = 9
SEALED = "-"


def words_of(entry):
    """Return the words of an entry's line."""
    if entry[KIND] == "query":
        return ["query", entry[ID], *entry[READS]]
    price = SEALED if entry[PRICE] is None else str(entry[PRICE])
    return ["write", entry[ID], price, "reads", *entry[READS], "writes", *entry[WRITES]]


def format_log(log, *, budget=DEFAULT_BUDGET):
    """Return the text of a log with a budget."""
    check_log(log)
    check_budget(budget)
    lines = [f"budget {budget}"] + [" ".join(words_of(entry)) for entry in log]
    return "".join([line + "\n" for line in lines])


def number_in(word):
    """Return the integer that a word of up to 9 digits without leading zeros gives, or None."""
    if not word.isascii() or not word.isdigit() or len(word) > MOST_DIGITS:
        return None
    return int(word) if word == "0" or word[0] != "0" else None


def write_in(words):
    """Return the items of a write in their order, or None if the words are not arranged as in a write's line."""
    if words[3:4] != ["reads"] or "writes" not in words[4:]:
        return None
    price = number_in(words[2])
    if price is None and words[2] != SEALED:
        return None
    # No cell is as long as this word, so that the first one separates.
    middle = words.index("writes", 4)
    return ("write", words[1], tuple(words[4:middle]), tuple(words[middle + 1:]), price)


def entry_in(words):
    """Return the entry that the words of a line give, or None if they do not have the form of one."""
    entry = None
    if words[0] == "write":
        entry = write_in(words)
    if words[0] == "query" and len(words) > 1:
        entry = ("query", words[1], tuple(words[2:]))
    return entry if is_entry(entry) else None


def budget_in(words):
    """Return the budget that the words of a line give, or None if they do not have the form of one."""
    if len(words) != 2 or words[0] != "budget":
        return None
    budget = number_in(words[1])
    return budget if budget is not None and budget <= HIGHEST_BUDGET else None


def parse_log(text):
    """Return (log, budget) for a text."""
    if not isinstance(text, str):
        raise ParseError(0)
    finished = text.endswith("\n")
    lines = text.split("\n")
    if finished:
        # Behind the last newline there is no line.
        del lines[-1]
    budget = budget_in(lines[0].split(" "))
    if budget is None:
        raise ParseError(0)
    entries = {}
    for number, line in enumerate(lines[1:], start=1):
        entry = entry_in(line.split(" "))
        if entry is None or entry[ID] in entries or len(entries) == MOST_ENTRIES:
            raise ParseError(number)
        entries[entry[ID]] = entry
    if not finished:
        raise ParseError(len(lines))
    return (tuple(entries.values()), budget)
