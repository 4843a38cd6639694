"""What is checked of each function alike: how it is called, and what it refuses."""

import unittest
from copy import deepcopy

from by_words import STRANGE
from deedpiles.errors import BadField, BadScript, PileError

ABC = ("a", "b", "c")
FIELD = (ABC, (("a", "b"),))
MOST = 10 ** 30
GOOD = (("b", 2), ("a", 1), ("b", -1), ("c", 3))

# Values that are refused, each with the error and with what it tells. The scripts are refused for FIELD.
FIELDS = [
    (None, BadField, "form"), (True, BadField, "form"), (ABC, BadField, "form"), ([ABC, ()], BadField, "form"),
    (((), ()), BadField, "names"), ((ABC + ("a",), ()), BadField, "names"), ((["a"], None), BadField, "names"),
    ((ABC, None), BadField, "pairs"), ((ABC, (("b", "a"),)), BadField, "pairs"), ((ABC, (("a", "d"),)), BadField, "pairs"),
] + [(value, BadField, "form") for value in STRANGE if not isinstance(value, tuple)]
SCRIPTS = [
    (None, BadScript, None), ([("a", 1)], BadScript, None), ((("a", 1),) * 61, BadScript, None),
    ((None,), BadScript, 0), ((("a", 1), ("d", 1), None), BadScript, 1), ((("a", 0),), BadScript, 0),
    ((("a", 1), ("b", MOST), ("c", -MOST), ("a", MOST + 1)), BadScript, 3), ((("a", 1),) * 59 + (("a", True),), BadScript, 59),
    ((("a", -MOST - 1),), BadScript, 0), ((("a", "1"),), BadScript, 0), ((["a", 1],), BadScript, 0),
] + [(value, BadScript, None) for value in STRANGE if not isinstance(value, tuple)]


class CallCase(unittest.TestCase):
    """Tests of functions by the arguments that they take, told as a dict in the order of the interface."""

    def refused(self, act, kind, *told):
        with self.assertRaises(kind) as caught:
            act()
        error = caught.exception
        self.assertIs(error.__class__, kind)
        self.assertEqual(isinstance(error, PileError), isinstance(error, ValueError))
        values = list(vars(error).values())
        self.assertEqual(values, list(told))
        self.assertEqual([value.__class__ for value in values], [value.__class__ for value in told])

    def refuses(self, function, good, wrong):
        """Each wrong value of each argument is refused, whatever the arguments behind it are."""
        names = list(good)
        self.assertEqual(names[:len(wrong)], list(wrong))
        for at, name in enumerate(wrong):
            for value, kind, *told in wrong[name]:
                for others in (good, {later: wrong[later][0][0] for later in names[at + 1:] if later in wrong}):
                    arguments = {**good, **others, name: value}
                    before = deepcopy(arguments)
                    self.refused(lambda: function(*arguments.values()), kind, *told)
                    self.refused(lambda: function(**arguments), kind, *told)
                    self.refused(lambda: function(**dict(reversed(arguments.items()))), kind, *told)
                    self.assertEqual(arguments, before)

    def called(self, function, good):
        """What a function returns, the same in whatever way it is called; the arguments stay what they were."""
        before = deepcopy(good)
        told = function(*good.values())
        for again in (function(*good.values()), function(**good), function(**dict(reversed(good.items())))):
            self.assertEqual(again, told)
            self.assertIs(again.__class__, told.__class__)
        self.assertEqual(good, before)
        return told
