"""The numbers that writes compute by rules."""

from neverwas.compaction import DEFAULT_BUDGET, check_budget, is_within
from neverwas.dependencies import check_retracted, check_target, without_retracted
from neverwas.errors import InvalidRules, UnknownId
from neverwas.logs import ID, KIND, READS, WRITES
from neverwas.logs import check_log, is_integer_within, position_in, position_of_write
from neverwas.paths import cheapest_ways, path_blockers

MODULUS = 1009


def is_number(value):
    """Return whether any value is a number from 0 to 1008."""
    return is_integer_within(value, 0, MODULUS - 1)


def is_rule(value, entry):
    """Return whether any value is (constant, factors) for a write."""
    if not isinstance(value, tuple) or len(value) != 2:
        return False
    constant, factors = value
    if not is_number(constant) or not isinstance(factors, tuple) or len(factors) != len(entry[READS]):
        return False
    return all([is_number(factor) for factor in factors])


def are_rules(value, entry):
    """Return whether any value is a dict from exactly the cells that a write writes to (constant, factors)."""
    if not isinstance(value, dict) or len(value) != len(entry[WRITES]):
        return False
    return all([cell in value and is_rule(value[cell], entry) for cell in entry[WRITES]])


def check_rules(log, rules):
    """Raise InvalidRules for the first write without valid rules, and for any value that is no dict."""
    if not isinstance(rules, dict):
        raise InvalidRules("")
    for entry in log:
        if entry[KIND] == "write" and not are_rules(rules.get(entry[ID]), entry):
            raise InvalidRules(entry[ID])


def computed(rule, numbers):
    """Return what a rule gives for the numbers read."""
    constant, factors = rule
    return (constant + sum([factor * number for factor, number in zip(factors, numbers)])) % MODULUS


def evaluate(log, rules, target, *, retracted=()):
    """Return the value of the target."""
    check_log(log)
    check_retracted(log, retracted)
    check_rules(log, rules)
    check_target(log, target)
    live = without_retracted(log, retracted)
    reader, cell = target
    stored = {}
    for entry in live[:position_in(live, reader)]:
        if entry[KIND] == "write":
            # All cells are read before the first one is written.
            numbers = [stored.get(read, 0) for read in entry[READS]]
            for written in entry[WRITES]:
                stored[written] = computed(rules[entry[ID]][written], numbers)
    return stored.get(cell, 0)


def rules_along(log, entry_id, path, constant):
    """Return rules by which this constant of a write comes to the end of its path, all other values being 0."""
    rules = {}
    for entry in log:
        if entry[KIND] == "write":
            start = constant if entry[ID] == entry_id else 0
            factors = tuple([0 for _ in entry[READS]])
            rules[entry[ID]] = {cell: (start, factors) for cell in entry[WRITES]}
    reads = {entry[ID]: entry[READS] for entry in log}
    # A write of the path hands on what it reads in the cell by which the next one reads it.
    for (reader, read), (_, written) in zip(path, path[1:]):
        rules[reader][written] = (0, tuple([1 if cell == read else 0 for cell in reads[reader]]))
    return rules


def distinguishing_rules(log, entry_id, *, budget=DEFAULT_BUDGET):
    """Return (rules, other rules, retracted, target): after the retractions, the target's values differ."""
    check_log(log)
    check_budget(budget)
    start = position_of_write(log, entry_id)
    way = cheapest_ways(log)[entry_id]
    if not is_within(way, budget):
        raise UnknownId(entry_id)
    path = way[1]
    # If all cells had factors, the sum over all chains of reads might be 0 modulo 1009.
    rules, others = rules_along(log, entry_id, path, 1), rules_along(log, entry_id, path, 0)
    return (rules, others, path_blockers(log, start, path), path[-1])
