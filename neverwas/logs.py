"""Logs, their entries, and which entries write and read a cell."""

from neverwas.errors import InvalidLog, UnknownCell, UnknownId

END = ""
LETTERS = "abcdefghijklmnopqrstuvwxyz"
LETTERS_AND_DIGITS = "abcdefghijklmnopqrstuvwxyz0123456789"
LONGEST_CELL = 4
LONGEST_ID = 6
MOST_CELLS = 3
HIGHEST_PRICE = 99
MOST_ENTRIES = 60


def is_word(value, longest, signs):
    """Return whether a value is a string of 1 to `longest` of these signs."""
    if not isinstance(value, str) or not 1 <= len(value) <= longest:
        return False
    return all(sign in signs for sign in value)


def is_cell(value):
    """Return whether any value is a cell."""
    return is_word(value, LONGEST_CELL, LETTERS)


def is_id(value):
    """Return whether any value is an id."""
    return is_word(value, LONGEST_ID, LETTERS_AND_DIGITS)


def is_cells(value, fewest):
    """Return whether any value is a tuple of `fewest` to 3 different, ascending cells."""
    if not isinstance(value, tuple) or not fewest <= len(value) <= MOST_CELLS:
        return False
    return all(is_cell(cell) for cell in value) and list(value) == sorted(set(value))


def is_price(value):
    """Return whether any value is the price of a write, sealed or not."""
    if value is None:
        return True
    # True and False are integers for Python, but not for this package.
    return isinstance(value, int) and not isinstance(value, bool) and 1 <= value <= HIGHEST_PRICE


def is_write(value):
    """Return whether any value is a write."""
    if not isinstance(value, tuple) or len(value) != 5 or value[0] != "write":
        return False
    _, entry_id, reads, writes, price = value
    return is_id(entry_id) and is_cells(reads, 0) and is_cells(writes, 1) and is_price(price)


def is_query(value):
    """Return whether any value is a query."""
    if not isinstance(value, tuple) or len(value) != 3 or value[0] != "query":
        return False
    _, entry_id, cells = value
    return is_id(entry_id) and is_cells(cells, 1)


def is_entry(value):
    """Return whether any value is an entry."""
    return is_write(value) or is_query(value)


def is_log(value):
    """Return whether any value is a log."""
    if not isinstance(value, tuple) or len(value) > MOST_ENTRIES:
        return False
    return all(is_entry(entry) for entry in value) and len({id_of(entry) for entry in value}) == len(value)


def id_of(entry):
    """Return the id of an entry."""
    return entry[1]


def cells_read(entry):
    """Return the cells that a write reads, or that a query asks for."""
    return entry[2]


def cells_written(entry):
    """Return the cells that an entry writes; a query writes none."""
    return entry[3] if entry[0] == "write" else ()


def is_sealed(entry):
    """Return whether an entry is a write that cannot be retracted."""
    return entry[0] == "write" and entry[4] is None


def query_ids(log):
    """Return the ids of the queries of a log, without the end, in log order."""
    return [id_of(entry) for entry in log if entry[0] == "query"]


def check_log(log):
    """Raise InvalidLog for any value that is not a log."""
    if not is_log(log):
        raise InvalidLog(f"a log is a tuple of at most {MOST_ENTRIES} entries with different ids")


def check_cell(cell):
    """Raise UnknownCell for any value that is not a cell."""
    if not is_cell(cell):
        raise UnknownCell(cell)


def entry_of(log, entry_id):
    """Return the entry with this id."""
    check_log(log)
    for entry in log:
        if id_of(entry) == entry_id:
            return entry
    raise UnknownId(entry_id)


def position_of(log, entry_id):
    """Return how many entries precede the entry with this id, or the end."""
    check_log(log)
    ids = [id_of(entry) for entry in log] + [END]
    if entry_id not in ids:
        raise UnknownId(entry_id)
    return ids.index(entry_id)


def writers_of(log, cell):
    """Return the ids of the writes that write the cell, in log order."""
    check_log(log)
    check_cell(cell)
    return [id_of(entry) for entry in log if cell in cells_written(entry)]


def readers_of(log, cell):
    """Return the ids of the readers of the cell, in log order, the end last."""
    check_log(log)
    check_cell(cell)
    return [id_of(entry) for entry in log if cell in cells_read(entry)] + [END]
