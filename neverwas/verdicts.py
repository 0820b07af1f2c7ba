"""Whether a target depends on a write in every history, in some histories, or in none."""

from neverwas.compaction import DEFAULT_BUDGET
from neverwas.dependencies import triples_of, without_retracted
from neverwas.errors import UnknownId
from neverwas.histories import barred_cells, check_question, open_gaps_of, with_inserted
from neverwas.logs import ID, KIND, READS
from neverwas.logs import cells_written, position_in


def closed_readers(target, triples, gaps):
    """Return a dict from each write to which closed triples lead to the pair (reader, cell) that reads it."""
    uncertain = {(reader, cell): True for reader, cell, _ in gaps}
    readers = {}
    for reader, cell, source in triples:
        # The triples that lead to a reader come before its own.
        if (reader, cell) not in uncertain and (reader == target[0] or reader in readers):
            if source is not None:
                readers.setdefault(source, (reader, cell))
    return readers


# The verdicts that are not "always" need the following sweep. It goes backwards
# from the target. `wanted` has the cells that are read further on, each with one
# reader from which no live write of the cell separates the sweep. `readers` has
# the writes found: those of the log by their ids, and additional ones by their
# positions, each with the pair (reader, cell) that reads it.


def find_additional(readers, wanted, position, barred, cells):
    """Let the sweep find an additional write at the position, if a history may have one that is read."""
    for cell, reader in wanted.items():
        if cell in barred:
            readers[position] = (reader, cell)
            break
    if position in readers:
        # An additional write may read any cell.
        for cell in cells:
            wanted.setdefault(cell, position)


def find_write(readers, wanted, entry):
    """Let the sweep pass by an entry that is not retracted."""
    found = [cell for cell in cells_written(entry) if cell in wanted]
    if not found:
        return
    readers[entry[ID]] = (wanted[found[0]], found[0])
    for cell in found:
        del wanted[cell]
    for cell in entry[READS]:
        wanted.setdefault(cell, entry[ID])


def possible_readers(log, target, retracted, barred):
    """Return a dict from all writes on which the target depends in some history to the pairs that read them."""
    gone = {entry_id: True for entry_id in retracted}
    cells = {cell: True for entry in log for cell in cells_written(entry)}
    readers = {}
    wanted = {target[1]: target[0]}
    for position in range(position_in(log, target[0]), -1, -1):
        find_additional(readers, wanted, position, barred[position], cells)
        if position > 0 and log[position - 1][ID] not in gone:
            find_write(readers, wanted, log[position - 1])
    return readers


def insertions_between(target, entry_id, readers):
    """Return the additional writes on the way from the write to the target, as with_inserted takes them."""
    insertions = []
    reader, cell = readers[entry_id]
    while reader != target[0]:
        following, written = readers[reader]
        if isinstance(reader, int):
            insertions.append((reader, (cell,), written))
        reader, cell = following, written
    return insertions


def insertions_into(gaps):
    """Return a write for the first open gap of each triple, as with_inserted takes them."""
    first = {}
    for reader, cell, position in gaps:
        first.setdefault((reader, cell), (position, (), cell))
    # Triples may share a write.
    return list({insertion: True for insertion in first.values()})


def judged(log, retracted, always, possible):
    """Return the verdicts, given the writes to which closed triples lead and those that the sweep finds."""
    found = {}
    for entry in without_retracted(log, retracted):
        if entry[KIND] == "write":
            if entry[ID] in always:
                found[entry[ID]] = "always"
            else:
                found[entry[ID]] = "sometimes" if entry[ID] in possible else "never"
    return found


def verdicts(log, target, *, budget=DEFAULT_BUDGET, retracted=()):
    """Return a dict from the writes that are not retracted, in log order, to "always", "sometimes" or "never"."""
    check_question(log, target, budget, retracted)
    barred = barred_cells(log, budget)
    triples = triples_of(without_retracted(log, retracted), target)
    always = closed_readers(target, triples, open_gaps_of(log, triples, barred))
    return judged(log, retracted, always, possible_readers(log, target, retracted, barred))


def witnesses(log, target, entry_id, *, budget=DEFAULT_BUDGET, retracted=()):
    """Return a history in which the target depends on a write with the verdict "sometimes", and one in which not."""
    check_question(log, target, budget, retracted)
    barred = barred_cells(log, budget)
    triples = triples_of(without_retracted(log, retracted), target)
    gaps = open_gaps_of(log, triples, barred)
    possible = possible_readers(log, target, retracted, barred)
    given = judged(log, retracted, closed_readers(target, triples, gaps), possible)
    # A list, because any value may be asked for in it.
    if entry_id not in [name for name, verdict in given.items() if verdict == "sometimes"]:
        raise UnknownId(entry_id)
    if entry_id in [triple[2] for triple in triples]:
        return (log, with_inserted(log, retracted, insertions_into(gaps)))
    return (with_inserted(log, retracted, insertions_between(target, entry_id, possible)), log)


def closed_path(log, target, entry_id, *, budget=DEFAULT_BUDGET, retracted=()):
    """Return the pairs (reader id, cell) from the target to a write with the verdict "always"."""
    check_question(log, target, budget, retracted)
    triples = triples_of(without_retracted(log, retracted), target)
    readers = closed_readers(target, triples, open_gaps_of(log, triples, barred_cells(log, budget)))
    if entry_id not in list(readers):
        raise UnknownId(entry_id)
    path = [readers[entry_id]]
    while path[-1][0] != target[0]:
        path.append(readers[path[-1][0]])
    path.reverse()
    return path


def reachable_positions(log, target, *, budget=DEFAULT_BUDGET, retracted=()):
    """Return, in ascending order, the positions of additional writes on which the target may depend."""
    check_question(log, target, budget, retracted)
    readers = possible_readers(log, target, retracted, barred_cells(log, budget))
    return [position for position in range(len(log) + 1) if position in readers]
