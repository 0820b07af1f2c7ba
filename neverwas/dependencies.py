"""What the answers of queries depend on, after some writes are retracted."""

from neverwas.errors import SealedWrite, UnknownCell, UnknownId
from neverwas.logs import END, cells_read, cells_written, check_log, id_of, is_id, is_sealed
from neverwas.logs import position_of, query_ids, readers_of


def check_retracted(log, retracted):
    """Raise the error of the first item that may not be retracted in this log."""
    if not isinstance(retracted, (list, tuple)):
        raise UnknownId(retracted)
    queries = query_ids(log)
    sealed = [id_of(entry) for entry in log if is_sealed(entry)]
    for entry_id in retracted:
        if not is_id(entry_id) or entry_id in queries:
            raise UnknownId(entry_id)
        if entry_id in sealed:
            raise SealedWrite(entry_id)


def check_reads(log, reader, cell):
    """Raise UnknownCell unless this entry, or the end, reads or queries the cell."""
    if reader not in readers_of(log, cell):
        raise UnknownCell(cell)


def check_target(log, target):
    """Raise the error of any value that is not a target of this log."""
    if not isinstance(target, tuple) or len(target) != 2:
        raise UnknownId(target)
    reader, cell = target
    if reader != END and reader not in query_ids(log):
        raise UnknownId(reader)
    check_reads(log, reader, cell)


def without_retracted(log, retracted):
    """Return the log as if the retracted writes had never existed."""
    return tuple([entry for entry in log if id_of(entry) not in retracted])


def source_before(live, position, cell):
    """Return the id of the last write of the cell among the first `position` entries, or None."""
    # The reader's own writes do not count: it reads before it writes.
    for entry in reversed(live[:position]):
        if cell in cells_written(entry):
            return id_of(entry)
    return None


def triples_at(live, position):
    """Return the triples of the write at this position, with ascending cells."""
    entry = live[position]
    return [(id_of(entry), cell, source_before(live, position, cell)) for cell in cells_read(entry)]


def dependencies(log, target, *, retracted=()):
    """Return the list of all triples (reader, cell, source) on which the target depends."""
    check_log(log)
    check_retracted(log, retracted)
    check_target(log, target)
    live = without_retracted(log, retracted)
    reader, cell = target
    triples = [(reader, cell, source_before(live, position_of(live, reader), cell))]
    # A source precedes its readers: going backwards, every triple that can
    # name a write as its source is in the list before the write is reached.
    for position in reversed(range(len(live))):
        if id_of(live[position]) in [triple[2] for triple in triples]:
            triples.extend(triples_at(live, position))
    return triples


def dependency_set(log, target, *, retracted=()):
    """Return the ids of the writes on which the target depends, in log order."""
    sources = [triple[2] for triple in dependencies(log, target, retracted=retracted)]
    return [id_of(entry) for entry in log if id_of(entry) in sources]


def source_of(log, reader, cell, *, retracted=()):
    """Return the id of the source of the cell for the reader, or None."""
    check_log(log)
    check_retracted(log, retracted)
    live = without_retracted(log, retracted)
    # A retracted reader has no position in the live log: its id is unknown there.
    position = position_of(live, reader)
    check_reads(live, reader, cell)
    return source_before(live, position, cell)
