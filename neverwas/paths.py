"""The paths by which a write can come to matter to a query or the end, and what they cost."""

from neverwas.errors import UnknownCell, UnknownId
from neverwas.logs import END, ID, KIND, PRICE, READS, WRITES
from neverwas.logs import cells_written, check_log, is_read_at, is_write_at, position_in, position_of_write


def is_edge(log, start, stop, cell):
    """Return whether an edge, usable or not, leads from one position to this later one by the cell."""
    return cell in cells_written(log[start]) and is_read_at(log, stop, cell)


def blocking_writes(log, start, stop, cell):
    """Return the writes between two positions that write the cell."""
    return [entry for entry in log[start + 1:stop] if cell in cells_written(entry)]


def blockers(log, writer, reader, cell):
    """Return the ids of the blockers of an edge, in log order."""
    check_log(log)
    start = position_of_write(log, writer)
    stop = position_in(log, reader)
    if stop <= start:
        raise UnknownId(reader)
    if not is_edge(log, start, stop, cell):
        raise UnknownCell(cell)
    return [entry[ID] for entry in blocking_writes(log, start, stop, cell)]


# A way is (cost, path), or None where there is no path. For each cell, `onward`
# has the way on for a value that stands in the cell before the entries that the
# loop has gone through, from the last one backwards.


def way_onward(onward, cell):
    """Return the way on for a value in this cell."""
    # The end queries every cell.
    return onward[cell] if cell in onward else (0, ((END, cell),))


def way_from(onward, entry):
    """Return the way on from a write."""
    ways = [way_onward(onward, cell) for cell in entry[WRITES]]
    # Tuples are compared as the document asks for: by the cost, then by the path.
    return min([way for way in ways if way is not None], default=None)


def add_blocker(onward, entry):
    """Let each way on for a cell that the write writes pass by the write."""
    for cell in entry[WRITES]:
        way = way_onward(onward, cell)
        if way is None or entry[PRICE] is None:
            onward[cell] = None
        else:
            onward[cell] = (way[0] + entry[PRICE], way[1])


def add_reader(onward, entry, way):
    """Let a value in a cell that the entry reads also go on by the entry, from which this is the way."""
    cost, path = way
    for cell in entry[READS]:
        passing = way_onward(onward, cell)
        reading = (cost, ((entry[ID], cell),) + path)
        if passing is None or reading < passing:
            onward[cell] = reading


def go_back(onward, entry, labels=None):
    """Let `onward` go back over the entry, and return the way from it; labels as for cheapest_ways."""
    way = reading = (0, ())
    if entry[KIND] == "write":
        way = reading = way_from(onward, entry)
        if labels is not None:
            reading = (labels[entry[ID]], ())
        add_blocker(onward, entry)
    # Only now: a write reads before it writes, and does not block what it reads itself.
    if reading is not None:
        add_reader(onward, entry, reading)
    return way


def cheapest_ways(log, labels=None):
    """Return a dict from the ids of the writes, the last one first, to (cost, path) or None.

    With labels, a dict from these ids to integers, a path ends at its first reader,
    and its cost is that of its edge and the label of this reader.
    """
    onward = {}
    ways = {}
    for entry in reversed(log):
        way = go_back(onward, entry, labels)
        if entry[KIND] == "write":
            ways[entry[ID]] = way
    return ways


def cheapest_path(log, entry_id):
    """Return (cost, path) with the smallest of the write's cheapest paths, or None if it has no path."""
    check_log(log)
    position_of_write(log, entry_id)
    return cheapest_ways(log)[entry_id]


def reader_position(log, start, step):
    """Return the position to which an edge from `start` leads, or None unless any value is the pair of such an edge."""
    if not isinstance(step, tuple) or len(step) != 2:
        return None
    reader, cell = step
    ids = [entry[ID] for entry in log] + [END]
    # Nothing comes later than the end.
    if reader not in ids[start + 1:]:
        return None
    stop = ids.index(reader)
    return stop if is_edge(log, start, stop, cell) else None


def path_blockers(log, start, path):
    """Return the ids of the blockers along a path from `start`, or None for any value that is not such a path."""
    if not isinstance(path, tuple):
        return None
    found = []
    for step in path:
        stop = reader_position(log, start, step)
        if stop is None:
            return None
        between = blocking_writes(log, start, stop, step[1])
        if None in [entry[PRICE] for entry in between]:
            return None
        found.extend([entry[ID] for entry in between])
        start = stop
    # A path ends at a query or the end. The empty tuple does not even leave the write.
    return None if is_write_at(log, start) else found


def retractions_for(log, entry_id, path):
    """Return the ids of all blockers along the path of this write, in log order."""
    check_log(log)
    found = path_blockers(log, position_of_write(log, entry_id), path)
    if found is None:
        raise UnknownId(path)
    return found


def all_costs(log):
    """Return a dict from the ids of all writes, in log order, to the minimal cost of a path, or None."""
    check_log(log)
    ways = cheapest_ways(log)
    return {entry_id: None if way is None else way[0] for entry_id, way in reversed(list(ways.items()))}
