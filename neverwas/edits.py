"""Edits of a log. Each gives a new log."""

from neverwas.compaction import DEFAULT_BUDGET, check_budget
from neverwas.errors import DuplicateId, InvalidBudget, InvalidLog, SealedWrite, UnknownId
from neverwas.logs import ID, KIND, MOST_ENTRIES, PRICE
from neverwas.logs import check_log, is_integer_within, position_in, position_of_write


def without_entry(log, position):
    """Return the log without the entry at this position."""
    return log[:position] + log[position + 1:]


def joined(one, other):
    """Return the entries of `one` followed by those of `other`."""
    check_log(one)
    check_log(other)
    ids = {entry[ID]: True for entry in one}
    for entry in other:
        if entry[ID] in ids:
            raise DuplicateId(entry[ID])
    if len(one) + len(other) > MOST_ENTRIES:
        raise InvalidLog(f"together the logs have more than {MOST_ENTRIES} entries")
    return one + other


def sealed_in(log, entry_id):
    """Return what with_sealed returns, for what surely is a log."""
    position = position_of_write(log, entry_id)
    entry = log[position]
    if entry[PRICE] is None:
        raise SealedWrite(entry_id)
    return log[:position] + (entry[:PRICE] + (None,),) + log[position + 1:]


def dropped_from(log, entry_id):
    """Return what without_query returns, for what surely is a log."""
    position = position_in(log, entry_id)
    if position == len(log) or log[position][KIND] != "query":
        raise UnknownId(entry_id)
    return without_entry(log, position)


def committed_in(log, entry_id, budget):
    """Return what with_committed returns, for what surely are a log and a budget."""
    position = position_of_write(log, entry_id)
    price = log[position][PRICE]
    if price is None:
        raise SealedWrite(entry_id)
    if price > budget:
        raise InvalidBudget(f"the price {price} exceeds the budget {budget}")
    return (without_entry(log, position), budget - price)


def with_sealed(log, entry_id):
    """Return the log in which the price of this write is None."""
    check_log(log)
    return sealed_in(log, entry_id)


def without_query(log, entry_id):
    """Return the log without this query."""
    check_log(log)
    return dropped_from(log, entry_id)


def with_committed(log, entry_id, *, budget=DEFAULT_BUDGET):
    """Return (log, budget): the log without this write, and the budget reduced by its price."""
    check_log(log)
    check_budget(budget)
    return committed_in(log, entry_id, budget)


def split_at(log, position):
    """Return the first `position` entries and the other ones, as two logs in a tuple."""
    check_log(log)
    if not is_integer_within(position, 0, len(log)):
        raise UnknownId(position)
    return (log[:position], log[position:])
