"""What the answers of queries depend on, after some writes are retracted."""

from neverwas.errors import SealedWrite, UnknownId
from neverwas.logs import ID, KIND, PRICE, READS
from neverwas.logs import cells_written, check_log, check_reads, is_id, is_write_at, position_in


def check_retracted(log, retracted):
    """Raise the error of the first item that may not be retracted in this log."""
    if not isinstance(retracted, (list, tuple)):
        raise UnknownId(retracted)
    entries = {entry[ID]: entry for entry in log}
    for entry_id in retracted:
        if not is_id(entry_id):
            raise UnknownId(entry_id)
        if entry_id in entries:
            check_may_be_retracted(entries[entry_id])


def check_may_be_retracted(entry):
    """Raise the error of a query or a sealed write."""
    if entry[KIND] == "query":
        raise UnknownId(entry[ID])
    if entry[PRICE] is None:
        raise SealedWrite(entry[ID])


def check_target(log, target):
    """Raise the error of any value that is not a target of this log."""
    if not isinstance(target, tuple) or len(target) != 2:
        raise UnknownId(target)
    reader, cell = target
    position = position_in(log, reader)
    if is_write_at(log, position):
        raise UnknownId(reader)
    check_reads(log, position, cell)


def without_retracted(log, retracted):
    """Return the log as if the retracted writes had never existed."""
    gone = {entry_id: True for entry_id in retracted}
    return tuple([entry for entry in log if entry[ID] not in gone])


def source_before(live, position, cell):
    """Return the id of the last write of the cell among the first `position` entries, or None."""
    # The reader's own writes do not count: it reads before it writes.
    for entry in reversed(live[:position]):
        if cell in cells_written(entry):
            return entry[ID]
    return None


def triples_of(live, target):
    """Return the triples on which the target depends in a log in which nothing is retracted."""
    reader, cell = target
    sources = {(reader, cell): None}
    # For each cell, those of its readers for which no source is found so far.
    waiting = {cell: [reader]}
    # A source precedes its readers: going backwards, all that read a write's
    # cells are known when the write is reached.
    for entry in reversed(live[:position_in(live, reader)]):
        found = [written for written in cells_written(entry) if written in waiting]
        for written in found:
            readers = waiting.pop(written)
            for name in readers:
                sources[name, written] = entry[ID]
        if found:
            # It reads before it writes: its own cells are given out already.
            for read in entry[READS]:
                sources[entry[ID], read] = None
                waiting.setdefault(read, []).append(entry[ID])
    return [(name, read, source) for (name, read), source in sources.items()]


def writes_in(log, triples):
    """Return the ids of the writes that are sources in the triples, in log order."""
    sources = {triple[2]: True for triple in triples}
    return [entry[ID] for entry in log if entry[ID] in sources]


def dependencies(log, target, *, retracted=()):
    """Return the list of all triples (reader, cell, source) on which the target depends."""
    check_log(log)
    check_retracted(log, retracted)
    check_target(log, target)
    return triples_of(without_retracted(log, retracted), target)


def dependency_set(log, target, *, retracted=()):
    """Return the ids of the writes on which the target depends, in log order."""
    return writes_in(log, dependencies(log, target, retracted=retracted))


def source_of(log, reader, cell, *, retracted=()):
    """Return the id of the source of the cell for the reader, or None."""
    check_log(log)
    check_retracted(log, retracted)
    live = without_retracted(log, retracted)
    # A retracted reader has no position in the live log: its id is unknown there.
    position = position_in(live, reader)
    check_reads(live, position, cell)
    return source_before(live, position, cell)
