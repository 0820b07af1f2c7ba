"""Values and checks that several test files use."""

import copy


def nested(depth):
    """Return a value that is nested this deep: lists, tuples and dicts in turn."""
    value = "a"
    for level in range(depth):
        value = [[value], (value,), {"a": value}][level % 3]
    return value


NO_STRINGS = [
    0, 1, 2, -1, 99, 10 ** 40 - 1, True, False, None,
    [], (), {}, ["a"], ("a",), {"a": 1}, ["w1"], ("w1",), {"w1": "w1"}, [None], (True,), {"a": [1, (2, {})]},
    nested(19), nested(20),
]
STRINGS = [
    "", "a", "abcd", "abcde", "w1", "abcdef", "abcdefg", "123456", "1234567", "write", "query",
    "A", "aB", "W1", "a b", " a", "a ", "a\n", "\n", "-", "a-b", "_", "a_b", "`", "{", "@", "[", "/", ":", "~", "!",
]
ANY_VALUES = NO_STRINGS + STRINGS
CELLS = ["a", "z", "abcd", "az"]
NO_CELLS = NO_STRINGS + [text for text in STRINGS if text not in ("a", "abcd")] + ["a1", "1", "0abc", "abcdefghij"]
IDS = ["a", "z", "0", "9", "w1", "1w", "abcdef", "012345", "zz99aa", "write", "query"]
NO_IDS = NO_STRINGS + [
    text for text in STRINGS if text not in ("a", "abcd", "abcde", "w1", "abcdef", "123456", "write", "query")
]


def same(one, other):
    """Return whether two values are equal and of the same kinds throughout (1 is not True)."""
    return repr(one) == repr(other)


class Checks:
    """Checks for test cases."""

    def check_error(self, error, attribute, value, call, *args, **kwargs):
        """The call raises exactly this error, with this very value, and changes no argument."""
        before = copy.deepcopy((args, kwargs))
        with self.assertRaises(error) as caught:
            call(*args, **kwargs)
        self.assertEqual(error.__name__, caught.exception.__class__.__name__, (args, kwargs))
        if attribute is not None:
            found = getattr(caught.exception, attribute)
            self.assertTrue(found is value or (isinstance(value, str) and same(found, value)), (found, value))
        self.assertTrue(same(before, (args, kwargs)), "an argument was changed")

    def check_fresh(self, call, *args, **kwargs):
        """The call returns a new list each time, equal to the last, and changes no argument."""
        before = copy.deepcopy((args, kwargs))
        first = call(*args, **kwargs)
        kept = copy.deepcopy(first)
        self.assertIsInstance(first, list)
        first.append("spoilt")
        first.reverse()
        second = call(*args, **kwargs)
        self.assertIsNot(first, second)
        self.assertEqual(kept, second)
        self.assertTrue(same(before, (args, kwargs)), "an argument was changed")
        for value in (*args, *kwargs.values()):
            self.assertIsNot(value, second)
