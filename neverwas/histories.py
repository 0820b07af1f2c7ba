"""What is certain in every history: every log that compacts to the kept entries."""

from neverwas.compaction import DEFAULT_BUDGET, check_budget, check_compact, is_within, kept_entries
from neverwas.dependencies import check_retracted, check_target, triples_of, without_retracted
from neverwas.logs import END, ID
from neverwas.logs import check_log, is_log_within
from neverwas.paths import go_back

MOST_IN_HISTORY = 300
PRICE_OF_INSERTED = 1


def check_question(log, target, budget, retracted):
    """Raise the first error of the arguments that most functions of stages 7 and 8 have in common."""
    check_log(log)
    check_budget(budget)
    check_retracted(log, retracted)
    check_target(log, target)
    check_compact(log, budget)


def barred_cells(log, budget):
    """Return, for each position, the cells from which a write inserted there has no path within the budget.

    These are dicts of True. An additional write of a history writes barred cells
    alone: within the budget no path leads to it, so that, whatever it reads and
    costs, it changes nothing for the other writes, and compaction deletes it.
    """
    onward = {}
    # At the end no cell is barred.
    barred = [{}]
    for entry in reversed(log):
        go_back(onward, entry)
        barred.append({cell: True for cell, way in onward.items() if not is_within(way, budget)})
    barred.reverse()
    return barred


def open_gaps_of(log, triples, barred):
    """Return (reader, cell, position) for all open gaps of these triples."""
    positions = {entry[ID]: position for position, entry in enumerate(log)}
    positions[END] = len(log)
    gaps = []
    for reader, cell, source in triples:
        first = 0 if source is None else positions[source] + 1
        for position in range(first, positions[reader] + 1):
            if cell in barred[position]:
                gaps.append((reader, cell, position))
    return gaps


def fresh_ids(log, retracted, count):
    """Return so many ids that are neither in the log nor retracted."""
    taken = {entry[ID]: True for entry in log}
    taken.update({entry_id: True for entry_id in retracted})
    # Even if each taken id is one of these, enough are left.
    candidates = [f"x{number}" for number in range(len(taken) + count)]
    return [entry_id for entry_id in candidates if entry_id not in taken][:count]


def with_inserted(log, retracted, insertions):
    """Return the history with a write more for each (position, cells read, cell written)."""
    additional = [[] for _ in range(len(log) + 1)]
    ids = fresh_ids(log, retracted, len(insertions))
    for entry_id, (position, reads, cell) in zip(ids, insertions):
        additional[position].append(("write", entry_id, reads, (cell,), PRICE_OF_INSERTED))
    history = []
    for position, writes in enumerate(additional):
        history.extend(writes)
        history.extend(log[position:position + 1])
    return tuple(history)


def is_history_of(log, value, budget, retracted):
    """Return whether any value is a history of what surely is a compact log."""
    if not is_log_within(value, MOST_IN_HISTORY) or kept_entries(value, budget) != log:
        return False
    kept = {entry[ID]: True for entry in log}
    gone = {entry_id: True for entry_id in retracted}
    return not any([entry[ID] in gone and entry[ID] not in kept for entry in value])


def open_gaps(log, target, *, budget=DEFAULT_BUDGET, retracted=()):
    """Return the list of (reader id, cell, position) for all open gaps of the target's dependencies."""
    check_question(log, target, budget, retracted)
    triples = triples_of(without_retracted(log, retracted), target)
    return open_gaps_of(log, triples, barred_cells(log, budget))


def certainty(log, target, *, budget=DEFAULT_BUDGET, retracted=()):
    """Return ("certain",), or ("uncertain", history) with a history in which the dependencies are different."""
    gaps = open_gaps(log, target, budget=budget, retracted=retracted)
    if not gaps:
        return ("certain",)
    _, cell, position = gaps[0]
    return ("uncertain", with_inserted(log, retracted, [(position, (), cell)]))


def is_history(log, value, *, budget=DEFAULT_BUDGET, retracted=()):
    """Return whether any value is a history."""
    check_log(log)
    check_budget(budget)
    check_retracted(log, retracted)
    check_compact(log, budget)
    return is_history_of(log, value, budget, retracted)


def differs(log, target, value, *, budget=DEFAULT_BUDGET, retracted=()):
    """Return whether any value is a history in which the target has other dependencies."""
    check_question(log, target, budget, retracted)
    if not is_history_of(log, value, budget, retracted):
        return False
    there = triples_of(without_retracted(value, retracted), target)
    return there != triples_of(without_retracted(log, retracted), target)
