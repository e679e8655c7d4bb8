"""What several tests use."""

import unittest

LOOSE = [None, True, False, -1, 0, 1, 2, 10**39, "", "a", "in", "A b", (), ("a",), [], ["a"], {}, {"a": 1}, ("name", "x")]


def deep(value, many):
    """A value that is nested so deep."""
    for _ in range(many):
        value = (value,)
    return value


class LoomTest(unittest.TestCase):
    """Tests with errors and with what stays as it is."""

    def fails(self, kind, told, call, *passed):
        """A call raises an error of just this class, its attributes being as told, and so it does again."""
        for _ in range(2):
            with self.assertRaises(kind) as caught:
                call(*passed)
            self.assertIs(type(caught.exception), kind)
            self.assertEqual(vars(caught.exception), told)

    def is_new(self, call, *passed):
        """A call returns equal values each time, whose lists are new each time; returns the value."""
        first, second = call(*passed), call(*passed)
        self.assertEqual(first, second)
        lists = [*lists_in(first), *lists_in(second)]
        self.assertEqual(len(lists), len({id(one) for one in lists}))
        return first


def lists_in(value):
    """All lists and dicts in a value."""
    found = [value] if isinstance(value, (list, dict)) else []
    if isinstance(value, (list, tuple)):
        for part in value:
            found.extend(lists_in(part))
    return found
