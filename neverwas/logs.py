"""Logs, their entries, and which entries write and read a cell."""

from neverwas.errors import InvalidLog, UnknownCell, UnknownId

END = ""
# The places of an entry's items. A query has no more than the first three.
KIND = 0
ID = 1
READS = 2
WRITES = 3
PRICE = 4
LONGEST_CELL = 4
LONGEST_ID = 6
MOST_CELLS = 3
HIGHEST_PRICE = 99
MOST_ENTRIES = 60


def is_integer_within(value, lowest, highest):
    """Return whether any value is an integer from `lowest` to `highest`."""
    # True and False are integers for Python, but not for this package.
    return isinstance(value, int) and not isinstance(value, bool) and lowest <= value <= highest


def is_id(value):
    """Return whether any value is an id."""
    if not isinstance(value, str) or not 1 <= len(value) <= LONGEST_ID:
        return False
    return value.isascii() and value.isalnum() and value == value.lower()


def is_cell(value):
    """Return whether any value is a cell."""
    # Every cell would also do as an id.
    return is_id(value) and len(value) <= LONGEST_CELL and value.isalpha()


def is_cells(value, fewest, known):
    """Return whether any value is a tuple of `fewest` to 3 different, ascending cells.

    The cells found are added to `known`, a dict, whose keys are not examined again:
    the same few cells recur throughout a log.
    """
    if not isinstance(value, tuple) or not fewest <= len(value) <= MOST_CELLS:
        return False
    before = ""
    for cell in value:
        if not isinstance(cell, str) or cell <= before:
            return False
        if cell not in known:
            if not is_cell(cell):
                return False
            known[cell] = True
        before = cell
    return True


def is_price(value):
    """Return whether any value is the price of a write, sealed or not."""
    return value is None or is_integer_within(value, 1, HIGHEST_PRICE)


def is_entry_with(value, known):
    """Return whether any value is an entry; `known` as for is_cells."""
    if not isinstance(value, tuple):
        return False
    if len(value) == 5:
        kind, entry_id, reads, writes, price = value
        if kind != "write" or not is_id(entry_id) or not is_price(price):
            return False
        return is_cells(reads, 0, known) and is_cells(writes, 1, known)
    if len(value) == 3:
        kind, entry_id, cells = value
        return kind == "query" and is_id(entry_id) and is_cells(cells, 1, known)
    return False


def is_entry(value):
    """Return whether any value is an entry."""
    return is_entry_with(value, {})


def is_log_within(value, most):
    """Return whether any value has at most `most` entries and is otherwise a log."""
    if not isinstance(value, tuple) or len(value) > most:
        return False
    known = {}
    for entry in value:
        if not is_entry_with(entry, known):
            return False
    return len({entry[ID] for entry in value}) == len(value)


def is_log(value):
    """Return whether any value is a log."""
    return is_log_within(value, MOST_ENTRIES)


def cells_written(entry):
    """Return the cells that an entry writes; a query writes none."""
    return entry[WRITES] if entry[KIND] == "write" else ()


def is_write_at(log, position):
    """Return whether a write stands at this position; the end, behind the last entry, is none."""
    return position < len(log) and log[position][KIND] == "write"


def is_read_at(log, position, cell):
    """Return whether the entry at this position, or the end, reads or queries any value as a cell."""
    return is_cell(cell) if position == len(log) else cell in log[position][READS]


def check_log(log):
    """Raise InvalidLog for any value that is not a log."""
    if not is_log(log):
        raise InvalidLog(f"a log is a tuple of at most {MOST_ENTRIES} entries with different ids")


def check_cell(cell):
    """Raise UnknownCell for any value that is not a cell."""
    if not is_cell(cell):
        raise UnknownCell(cell)


def check_reads(log, position, cell):
    """Raise UnknownCell unless the entry at this position, or the end, reads or queries the cell."""
    if not is_read_at(log, position, cell):
        raise UnknownCell(cell)


# The functions with a parameter `log` that the document lists check it. The
# others rely on that: to examine a log takes longer than to answer most questions.


def position_in(log, entry_id):
    """Return the position of the entry with this id, or of the end, in what surely is a log."""
    if entry_id == END:
        return len(log)
    for position, entry in enumerate(log):
        if entry[ID] == entry_id:
            return position
    raise UnknownId(entry_id)


def position_of_write(log, entry_id):
    """Return the position of the write with this id in what surely is a log."""
    position = position_in(log, entry_id)
    if not is_write_at(log, position):
        raise UnknownId(entry_id)
    return position


def entry_of(log, entry_id):
    """Return the entry with this id."""
    check_log(log)
    position = position_in(log, entry_id)
    if position == len(log):
        raise UnknownId(entry_id)
    return log[position]


def position_of(log, entry_id):
    """Return how many entries precede the entry with this id, or the end."""
    check_log(log)
    return position_in(log, entry_id)


def writers_of(log, cell):
    """Return the ids of the writes that write the cell, in log order."""
    check_log(log)
    check_cell(cell)
    return [entry[ID] for entry in log if cell in cells_written(entry)]


def readers_of(log, cell):
    """Return the ids of the readers of the cell, in log order, the end last."""
    check_log(log)
    check_cell(cell)
    return [entry[ID] for entry in log if cell in entry[READS]] + [END]
