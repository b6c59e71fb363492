"""Objects of all kinds, for the calls that raise their errors for any object."""

from copy import deepcopy


def nested(depth, wrap, kernel):
    """Return a kernel that is wrapped so many times."""
    for _ in range(depth):
        kernel = wrap(kernel)
    return kernel


# The names, tables, columns and flags of the schemas of the tests do not stand here alone.
OBJECTS = [
    None, True, False, 0, 1, -1, 7, -12, 10 ** 39, -10 ** 39,
    "", " ", "a b", "tab\there", "line\nfeed", "~", "0", "True", "None", "yes", "Town", "town ", "nowhere",
    (), [], {}, (None,), [None], (True,), (0,), [0], ("yes",), ["yes"], (("yes",),), ("flag",), ("has",), ("not",),
    ["town"], ("town",), {"town": 1}, {"town": []}, {0: 0}, {-1: "a"}, {("town", "old"): 1}, {("a", (True, None)): []},
    [[], {}], ([], {}), {"a": {"b": [()]}}, [("town", "old")], (("id", "town"),), ((1,), (True,)),
    ("town", (False,), ()), ("yes", "yes"), ("flag", "old", "old"), ("and", ("yes",)), ("or", ("yes",), None),
    ("has", "id", "town", "id"), (1, ("yes",)), (None, None), (["yes"],),
    nested(20, lambda kernel: (kernel,), ()), nested(20, lambda kernel: [kernel], []),
    nested(20, lambda kernel: {"a": kernel}, {}), nested(19, lambda kernel: ("not", kernel), ("nay",)),
    list(range(2000)), tuple(range(2000)), {number: number for number in range(2000)}, "a" * 2000,
]


def objects():
    """Return the objects anew, so that no test can spoil them for another one."""
    return deepcopy(OBJECTS)


def same(one, other):
    """Return whether two objects are equal with True and 1, False and 0 told apart."""
    return one == other and repr(one) == repr(other)
