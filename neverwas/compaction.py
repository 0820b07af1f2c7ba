"""Which writes can still matter within a budget, and why each one is kept or deleted."""

from neverwas.dependencies import check_retracted, check_target, triples_of, without_retracted, writes_in
from neverwas.errors import InvalidBudget, NotCompact, SealedWrite, UnknownCell, UnknownId
from neverwas.logs import ID, KIND, PRICE
from neverwas.logs import check_log, is_integer_within, position_of_write
from neverwas.paths import cheapest_ways, path_blockers

DEFAULT_BUDGET = 10
HIGHEST_BUDGET = 999


def check_budget(budget):
    """Raise InvalidBudget for any value that is not a budget."""
    if not is_integer_within(budget, 0, HIGHEST_BUDGET):
        raise InvalidBudget(f"a budget is an integer from 0 to {HIGHEST_BUDGET}")


def is_within(way, budget):
    """Return whether there is a way and its cost is at most the budget."""
    return way is not None and way[0] <= budget


def kept_entries(log, budget):
    """Return the log compacted with the budget."""
    ways = cheapest_ways(log)
    return tuple([entry for entry in log if entry[KIND] == "query" or is_within(ways[entry[ID]], budget)])


def compacted(log, *, budget=DEFAULT_BUDGET):
    """Return the compacted log."""
    check_log(log)
    check_budget(budget)
    return kept_entries(log, budget)


def is_compact(log, *, budget=DEFAULT_BUDGET):
    """Return whether the log is compact."""
    return compacted(log, budget=budget) == log


def check_compact(log, budget):
    """Raise NotCompact if compaction with the budget would change the log."""
    if kept_entries(log, budget) != log:
        raise NotCompact(f"compaction with the budget {budget} deletes entries of this log")


def labels_for(log, ways, budget):
    """Return the highest valid labels: the minimal costs, or budget + 1 where these exceed the budget."""
    labels = {}
    for entry in log:
        if entry[KIND] == "write":
            way = ways[entry[ID]]
            labels[entry[ID]] = way[0] if is_within(way, budget) else budget + 1
    return labels


def explanation(log, entry_id, *, budget=DEFAULT_BUDGET):
    """Return ("kept", target, retracted) or ("deleted", labels) for a write."""
    check_log(log)
    check_budget(budget)
    start = position_of_write(log, entry_id)
    ways = cheapest_ways(log)
    way = ways[entry_id]
    if not is_within(way, budget):
        return ("deleted", labels_for(log, ways, budget))
    path = way[1]
    return ("kept", path[-1], path_blockers(log, start, path))


def price_of(log, retracted):
    """Return the total price of the writes of the log that are retracted."""
    # Going through the log, each write counts once, however often its id occurs.
    gone = {entry_id: True for entry_id in retracted}
    return sum([entry[PRICE] for entry in log if entry[ID] in gone])


def shows_kept(log, entry_id, target, retracted, budget):
    """Return whether any values are a target and retractions within the budget after which it depends on the write."""
    try:
        check_retracted(log, retracted)
        check_target(log, target)
    except (UnknownId, UnknownCell, SealedWrite):
        return False
    if price_of(log, retracted) > budget:
        return False
    return entry_id in writes_in(log, triples_of(without_retracted(log, retracted), target))


def are_labels(log, value, budget):
    """Return whether any value is a dict from the ids of all writes to integers from 0 to budget + 1."""
    if not isinstance(value, dict):
        return False
    ids = [entry[ID] for entry in log if entry[KIND] == "write"]
    if len(value) != len(ids):
        return False
    for entry_id in ids:
        if entry_id not in value or not is_integer_within(value[entry_id], 0, budget + 1):
            return False
    return True


def shows_deleted(log, entry_id, value, budget):
    """Return whether any value is valid labels, that of this write being budget + 1."""
    if not are_labels(log, value, budget) or value[entry_id] != budget + 1:
        return False
    # No label exceeds budget + 1, so that larger sums need not be cut down to it.
    ways = cheapest_ways(log, value)
    return all([way is None or value[name] <= way[0] for name, way in ways.items()])


def is_explanation(log, entry_id, value, *, budget=DEFAULT_BUDGET):
    """Return whether any value is a correct explanation of either form for this write."""
    check_log(log)
    check_budget(budget)
    position_of_write(log, entry_id)
    if not isinstance(value, tuple):
        return False
    if len(value) == 3 and value[0] == "kept":
        return shows_kept(log, entry_id, value[1], value[2], budget)
    if len(value) == 2 and value[0] == "deleted":
        return shows_deleted(log, entry_id, value[1], budget)
    return False
