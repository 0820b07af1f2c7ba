"""A store: a log that is compacted after each command, its budget, and the ids that are retracted."""

from neverwas.compaction import DEFAULT_BUDGET, check_budget, check_compact, kept_entries, price_of
from neverwas.dependencies import check_may_be_retracted, check_retracted, check_target
from neverwas.dependencies import triples_of, without_retracted
from neverwas.edits import committed_in, dropped_from, sealed_in
from neverwas.errors import DuplicateId, InvalidBudget, InvalidCommand, InvalidLog, LogError, UnknownId
from neverwas.logs import ID, MOST_ENTRIES
from neverwas.logs import check_log, is_entry

COMMANDS = ("add", "retract", "restore", "seal", "drop", "commit", "lower_budget")


def is_command(value):
    """Return whether any value is a command as apply_all takes it."""
    if not isinstance(value, tuple) or len(value) != 2 or value[0] not in COMMANDS:
        return False
    return value[0] != "add" or is_entry(value[1])


def check_commands(commands):
    """Raise InvalidCommand for the first item that is no command, and for any value that is no list."""
    if not isinstance(commands, (list, tuple)):
        raise InvalidCommand(0)
    for position, command in enumerate(commands):
        if not is_command(command):
            raise InvalidCommand(position)


def run_command(store, command):
    """Run a command as apply_all takes it, and return the ids that it deletes."""
    name, argument = command
    if name == "add":
        return store.add(argument)
    if name == "retract":
        return store.retract(argument)
    if name == "restore":
        return store.restore(argument)
    if name == "seal":
        return store.seal(argument)
    if name == "drop":
        return store.drop(argument)
    if name == "commit":
        return store.commit(argument)
    return store.lower_budget(argument)


class Store:
    """A log, a budget and retracted ids, which change by commands. After each command the log is compacted."""

    def __init__(self, budget=DEFAULT_BUDGET):
        check_budget(budget)
        # These three are replaced by each command, never changed in place: apply_all
        # can go back to them, and a duplicate can share them.
        self._log = ()
        self._budget = budget
        self._retracted = ()
        self._notes = []

    def _keep(self, log, budget):
        """Keep this log, compacted with this budget, and return the ids that compaction deletes."""
        self._log = kept_entries(log, budget)
        self._budget = budget
        kept = {entry[ID]: True for entry in self._log}
        return [entry[ID] for entry in log if entry[ID] not in kept]

    def _without(self, entry_id):
        """Return the retracted ids but this one."""
        return tuple([other for other in self._retracted if other != entry_id])

    def add(self, entry):
        """Add an entry at the end of the log."""
        if not is_entry(entry):
            raise InvalidCommand(0)
        if entry[ID] in [kept[ID] for kept in self._log]:
            raise DuplicateId(entry[ID])
        if entry[ID] in self._retracted:
            check_may_be_retracted(entry)
        if len(self._log) >= MOST_ENTRIES:
            raise InvalidLog(f"the store keeps {MOST_ENTRIES} entries")
        return self._keep(self._log + (entry,), self._budget)

    def retract(self, entry_id):
        """Retract a write, which may be deleted already or not yet added."""
        check_retracted(self._log, (entry_id,))
        if entry_id in self._retracted:
            raise DuplicateId(entry_id)
        self._retracted = tuple(sorted([*self._retracted, entry_id]))
        return []

    def restore(self, entry_id):
        """Undo the retraction of a write."""
        if entry_id not in self._retracted:
            raise UnknownId(entry_id)
        self._retracted = self._without(entry_id)
        return []

    def seal(self, entry_id):
        """Seal a write that is not retracted."""
        log = sealed_in(self._log, entry_id)
        if entry_id in self._retracted:
            raise DuplicateId(entry_id)
        return self._keep(log, self._budget)

    def drop(self, entry_id):
        """Remove a query."""
        return self._keep(dropped_from(self._log, entry_id), self._budget)

    def commit(self, entry_id):
        """Remove a write, as if it had never existed, and reduce the budget by its price."""
        log, budget = committed_in(self._log, entry_id, self._budget)
        self._retracted = self._without(entry_id)
        return self._keep(log, budget)

    def lower_budget(self, budget):
        """Set the budget, which never increases."""
        check_budget(budget)
        if budget > self._budget:
            raise InvalidBudget(f"the budget is {self._budget} and cannot become {budget}")
        return self._keep(self._log, budget)

    def apply_all(self, commands):
        """Run all commands or none, and return all ids that they delete."""
        check_commands(commands)
        before = (self._log, self._budget, self._retracted)
        self._notes.append(("begin", len(commands)))
        deleted = []
        try:
            for command in commands:
                deleted.extend(run_command(self, command))
        except LogError:
            self._log, self._budget, self._retracted = before
            self._notes.append(("end", False))
            raise
        self._notes.append(("end", True))
        return deleted

    def log(self):
        """Return the kept log."""
        return self._log

    def budget(self):
        """Return the budget."""
        return self._budget

    def retracted(self):
        """Return the ascending list of the retracted ids."""
        return list(self._retracted)

    def retracted_price(self):
        """Return the total price of the retracted writes that are kept."""
        return price_of(self._log, self._retracted)

    def dependencies(self, target):
        """Return (exact, list): the triples for the kept log, and whether they surely are those of the complete log."""
        check_target(self._log, target)
        exact = self.retracted_price() <= self._budget
        return (exact, triples_of(without_retracted(self._log, self._retracted), target))

    def notes(self):
        """Return the list of notes on the calls of apply_all."""
        return list(self._notes)

    def duplicate(self):
        """Return an independent store with the same state."""
        other = Store(self._budget)
        other._log = self._log
        other._retracted = self._retracted
        other._notes = list(self._notes)
        return other


def store_of(log, *, budget=DEFAULT_BUDGET):
    """Return a store with this log and this budget, nothing retracted and no notes."""
    check_log(log)
    check_budget(budget)
    check_compact(log, budget)
    store = Store(budget)
    store._log = log
    return store
