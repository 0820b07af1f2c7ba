"""Values, made-up logs, definitions and checks that several test files use."""

import copy
import itertools
import random


def nested(depth):
    """Return a value that is nested this deep: lists, tuples and dicts in turn."""
    value = "a"
    for level in range(depth):
        value = [[value], (value,), {"a": value}][level % 3]
    return value


NO_STRINGS = [
    0, 1, 2, -1, 99, 10 ** 40 - 1, True, False, None,
    [], (), {}, ["a"], ("a",), {"a": 1}, ["w1"], ("w1",), {"w1": "w1"}, [None], (True,), {"a": [1, (2, {})]},
    nested(19), nested(20),
]
STRINGS = [
    "", "a", "abcd", "abcde", "w1", "abcdef", "abcdefg", "123456", "1234567", "write", "query",
    "A", "aB", "W1", "a b", " a", "a ", "a\n", "\n", "-", "a-b", "_", "a_b", "`", "{", "@", "[", "/", ":", "~", "!",
]
ANY_VALUES = NO_STRINGS + STRINGS
CELLS = ["a", "z", "abcd", "az"]
NO_CELLS = NO_STRINGS + [text for text in STRINGS if text not in ("a", "abcd")] + ["a1", "1", "0abc", "abcdefghij"]
IDS = ["a", "z", "0", "9", "w1", "1w", "abcdef", "012345", "zz99aa", "write", "query"]
NO_IDS = NO_STRINGS + [
    text for text in STRINGS if text not in ("a", "abcd", "abcde", "w1", "abcdef", "123456", "write", "query")
]

NO_BUDGETS = [value for value in ANY_VALUES if repr(value) not in ("0", "1", "2", "99")] + [
    -2, -10, 1000, 1001, 10 ** 20, -(10 ** 40 - 1), "10", [10], (10,), {10: 10},
]


def same(one, other):
    """Return whether two values are equal and of the same kinds throughout (1 is not True)."""
    return repr(one) == repr(other)


def some_log(chance, most=12, prefix=""):
    """Return a log of up to `most` entries over few cells, with ids that begin with the prefix."""

    def cells(fewest):
        return tuple(sorted(chance.sample("abcde", chance.randint(fewest, 3))))

    log = []
    for number in range(chance.randint(0, most)):
        if chance.random() < 0.25:
            log.append(("query", f"{prefix}q{number}", cells(1)))
        else:
            log.append(("write", f"{prefix}w{number}", cells(0), cells(1), chance.choice([None, 1, 2, 3, 99])))
    return tuple(log)


def some_entry(chance, entry_id):
    """Return an entry over few cells, mostly a write that is not sealed."""

    def cells(fewest):
        return tuple(sorted(chance.sample("abc", chance.randint(fewest, 2))))

    if chance.random() < 0.2:
        return ("query", entry_id, cells(1))
    return ("write", entry_id, cells(0), cells(1), chance.choice([None, 1, 1, 2, 2, 3, 4, 5]))


def some_command(chance, store, number):
    """Return a command of a store, mostly one that raises no error; an entry gets an id with this number."""
    kept = [entry[1] for entry in store.log()]
    if chance.random() < 0.5:
        name = chance.choice(kept) if kept and chance.random() < 0.05 else f"e{number}"
        return ("add", some_entry(chance, name))
    name = chance.choice(["retract"] * 4 + ["restore"] * 2 + ["seal", "drop", "drop", "commit", "lower_budget"])
    if name == "lower_budget":
        return (name, store.budget() + chance.choice([0, -1, -1, 1]))
    ids = kept + store.retracted() + [f"e{chance.randint(0, number + 9)}", "", "a b"]
    likely = {"restore": store.retracted(), "drop": ids_of(store.log(), "query")}.get(name, [])
    return (name, chance.choice(likely if likely and chance.random() < 0.8 else ids))


def situations(seed, count, most=12):
    """Return made-up (log, budget, target, retracted), where the log is compact; many with open gaps."""
    chance = random.Random(seed)
    found = []
    for _ in range(count):
        budget = chance.choice([0, 0, 0, 1, 2, 101])
        log = defined_compacted(some_log(chance, most), budget)
        share = chance.choice([0.2, 0.5, 0.8])
        ids = [entry_id for entry_id in prices_of(log) if chance.random() < share]
        retracted = ids + chance.sample(["gone", "x0", "x1", "later"], chance.randint(0, 2))
        found.append((log, budget, chance.choice(targets_of(log)), retracted))
    return found


def busy_log(price=2):
    """Return 54 writes that all read and write a, b and c, with a query of them after every nine."""
    log = []
    for number in range(54):
        log.append(("write", f"w{number}", ("a", "b", "c"), ("a", "b", "c"), price))
        if number in range(8, 54, 9):
            log.append(("query", f"q{number}", ("a", "b", "c")))
    return tuple(log)


def targets_of(log):
    """Return all targets of the log over the cells a to f."""
    found = [("", cell) for cell in "abcdef"]
    return found + [(entry[1], cell) for entry in log if entry[0] == "query" for cell in entry[2]]


def ids_of(log, kind):
    """Return the ids of the writes, or of the queries, in log order."""
    return [entry[1] for entry in log if entry[0] == kind]


def prices_of(log):
    """Return the prices of the writes that may be retracted, by their ids."""
    return {entry[1]: entry[4] for entry in log if entry[0] == "write" and entry[4] is not None}


def retractions_of(log):
    """Return (price, ids) of all retractions that the log allows."""
    prices = prices_of(log)
    found = []
    for count in range(len(prices) + 1):
        for ids in itertools.combinations(prices, count):
            found.append((sum(prices[entry_id] for entry_id in ids), list(ids)))
    return found


def defined_edges(log, position):
    """Return (position of the reader, its id, cell, blockers) of a write's edges, by the words of [3.1]."""
    found = []
    for cell in log[position][3]:
        for stop in range(position + 1, len(log) + 1):
            if stop == len(log) or cell in log[stop][2]:
                between = [entry for entry in log[position + 1:stop] if entry[0] == "write" and cell in entry[3]]
                found.append((stop, "" if stop == len(log) else log[stop][1], cell, between))
    return found


def is_usable(edge):
    return all(entry[4] is not None for entry in edge[3])


def price_along(edge):
    return sum(entry[4] for entry in edge[3])


def defined_paths(log, position):
    """Return (cost, path, blockers) of all paths of the write at this position, by the words of [3.2]."""
    found = []
    for edge in filter(is_usable, defined_edges(log, position)):
        stop, reader, cell, between = edge
        ids = [entry[1] for entry in between]
        if stop < len(log) and log[stop][0] == "write":
            for cost, path, more in defined_paths(log, stop):
                found.append((price_along(edge) + cost, ((reader, cell),) + path, ids + more))
        else:
            found.append((price_along(edge), ((reader, cell),), ids))
    return found


def defined_ways(log):
    """Return the smallest (cost, path), or None, by the ids of the writes: for logs with too many paths to list."""
    ways = {}
    for position in reversed(range(len(log))):
        if log[position][0] == "write":
            options = []
            for edge in filter(is_usable, defined_edges(log, position)):
                way = ways.get(edge[1], (0, ()))
                if way is not None:
                    options.append((price_along(edge) + way[0], (edge[1:3],) + way[1]))
            ways[log[position][1]] = min(options, default=None)
    return ways


def defined_compacted(log, budget):
    """Return the compacted log by the words of [4.2]."""
    ways = defined_ways(log)
    kept = [entry_id for entry_id, way in ways.items() if way is not None and way[0] <= budget]
    return tuple(entry for entry in log if entry[0] == "query" or entry[1] in kept)


def defined_source(log, position, cell, retracted):
    """Return the source by the words of [2.2]."""
    found = None
    for entry in log[:position]:
        if entry[0] == "write" and cell in entry[3] and entry[1] not in retracted:
            found = entry[1]
    return found


def defined_triples(log, target, retracted):
    """Return the dependencies by the words of [2.3]."""
    positions = {entry[1]: position for position, entry in enumerate(log)}
    positions[""] = len(log)
    first = (*target, defined_source(log, positions[target[0]], target[1], retracted))
    triples = {}

    def visit(source):
        if source is None or source in triples:
            return
        place = positions[source]
        triples[source] = [
            (source, cell, defined_source(log, place, cell, retracted)) for cell in sorted(log[place][2])
        ]
        for triple in triples[source]:
            visit(triple[2])

    visit(first[2])
    order = sorted(triples, key=lambda source: -positions[source])
    return [first] + [triple for source in order for triple in triples[source]], sorted(order, key=positions.get)


def with_entry(log, position, entry):
    """Return the log with the entry inserted before the one at this position."""
    return log[:position] + (entry,) + log[position:]


def defined_is_history(log, value, budget, retracted):
    """Return whether a tuple of entries with different ids is a history, by the words of [7.2]."""
    kept = [entry[1] for entry in log]
    others = [entry for entry in value if entry[1] not in kept]
    if len(value) > 300 or any(entry[1] in retracted for entry in others):
        return False
    return defined_compacted(value, budget) == log


def defined_open_gaps(log, target, budget, retracted):
    """Return the open gaps by the words of [7.3]."""
    positions = {entry[1]: position for position, entry in enumerate(log)}
    positions[""] = len(log)
    ways = {}
    found = []
    for reader, cell, source in defined_triples(log, target, retracted)[0]:
        for position in range(0 if source is None else positions[source] + 1, positions[reader] + 1):
            if (position, cell) not in ways:
                value = with_entry(log, position, ("write", "INSERTED", (), (cell,), 1))
                ways[position, cell] = defined_ways(value)["INSERTED"]
            way = ways[position, cell]
            if way is None or way[0] > budget:
                found.append((reader, cell, position))
    return found


def places_of(value):
    """Return all lists and dicts in a value."""
    inner = []
    if isinstance(value, (list, tuple)):
        inner = list(value)
    if isinstance(value, dict):
        inner = list(value.values())
    found = [value] if isinstance(value, (list, dict)) else []
    return found + [place for item in inner for place in places_of(item)]


class Checks:
    """Checks for test cases."""

    def check_error(self, error, attribute, value, call, *args, **kwargs):
        """The call raises exactly this error, with this very value, and changes no argument."""
        before = copy.deepcopy((args, kwargs))
        with self.assertRaises(error) as caught:
            call(*args, **kwargs)
        self.assertEqual(error.__name__, caught.exception.__class__.__name__, (args, kwargs))
        if attribute is not None:
            found = getattr(caught.exception, attribute)
            self.assertTrue(found is value or (isinstance(value, str) and same(found, value)), (found, value))
        self.assertTrue(same(before, (args, kwargs)), "an argument was changed")

    def check_fresh(self, call, *args, **kwargs):
        """Each call returns new lists and dicts, equal to the last ones, and changes no argument."""
        before = copy.deepcopy((args, kwargs))
        first = call(*args, **kwargs)
        kept = copy.deepcopy(first)
        places = places_of(first)
        self.assertNotEqual([], places)
        for place in places:
            place.clear()
        second = call(*args, **kwargs)
        self.assertTrue(same(kept, second), (kept, second))
        self.assertTrue(same(before, (args, kwargs)), "an argument was changed")
        for place in places_of(second):
            for other in places + places_of(args) + places_of(kwargs):
                self.assertIsNot(other, place)

    def check_steady(self, call, *args, **kwargs):
        """Each call returns the same value, and changes no argument."""
        before = copy.deepcopy((args, kwargs))
        first = call(*args, **kwargs)
        self.assertTrue(same(first, call(*args, **kwargs)))
        self.assertTrue(same(before, (args, kwargs)), "an argument was changed")
