"""Records of what a store was told and answered, and their audit."""

from neverwas.compaction import DEFAULT_BUDGET
from neverwas.errors import InvalidCommand, InvalidRecord, LogError
from neverwas.store import Store, check_commands, is_command, run_command


def results_of(store, command, target):
    """Run the command, and return (ids that it deletes, triples of the target or None)."""
    deleted = run_command(store, command)
    return (deleted, None if target is None else store.dependencies(target)[1])


def recorded(commands, targets, *, budget=DEFAULT_BUDGET):
    """Run the commands one by one in a new store, and return the record."""
    store = Store(budget)
    check_commands(commands)
    if not isinstance(targets, (list, tuple)) or len(targets) != len(commands):
        raise InvalidCommand(len(commands))
    record = []
    for command, target in zip(commands, targets):
        deleted, answer = results_of(store, command, target)
        record.append((command, deleted, target, answer))
    return record


def as_list(value):
    """Return a tuple as a list, and any other value as it is."""
    return list(value) if isinstance(value, tuple) else value


def runs_row(store, row):
    """Run the command of any value as a row; return whether the row is what recorded would give."""
    if not isinstance(row, tuple) or len(row) != 4:
        return False
    command, deleted, target, answer = row
    if not is_command(command):
        return False
    try:
        results = results_of(store, command, target)
    except LogError:
        return False
    return results == (as_list(deleted), as_list(answer))


def audited(record, budget):
    """Return (store, position): a new store after the rows before the first invalid one, and its position or None."""
    # What was added is kept in this store alone, which compacts it.
    store = Store(budget)
    if not isinstance(record, (list, tuple)):
        return (store, 0)
    for position, row in enumerate(record):
        if not runs_row(store, row):
            return (store, position)
    return (store, None)


def first_invalid(record, *, budget=DEFAULT_BUDGET):
    """Return the position of the first invalid row of any value as a record, or None."""
    return audited(record, budget)[1]


def replayed(record, *, budget=DEFAULT_BUDGET):
    """Return the store after all rows."""
    store, position = audited(record, budget)
    if position is not None:
        raise InvalidRecord(position)
    return store
