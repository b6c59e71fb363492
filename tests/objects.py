"""What several tests need: objects of all kinds, and conditions and rows at random.

The objects are for the calls that raise their errors for any object.
"""

from copy import deepcopy


def nested(depth, wrap, kernel):
    """Return a kernel that is wrapped so many times."""
    for _ in range(depth):
        kernel = wrap(kernel)
    return kernel


# The names, tables, columns and flags of the schemas of the tests do not stand here alone.
OBJECTS = [
    None, True, False, 0, 1, -1, 7, -12, 10 ** 39, -10 ** 39,
    "", " ", "a b", "tab\there", "line\nfeed", "~", "0", "True", "None", "yes", "Town", "town ", "nowhere",
    (), [], {}, (None,), [None], (True,), (0,), [0], ("yes",), ["yes"], (("yes",),), ("flag",), ("has",), ("not",),
    ["town"], ("town",), {"town": 1}, {"town": []}, {0: 0}, {-1: "a"}, {("town", "old"): 1}, {("a", (True, None)): []},
    [[], {}], ([], {}), {"a": {"b": [()]}}, [("town", "old")], (("id", "town"),), ((1,), (True,)),
    ("town", (False,), ()), ("yes", "yes"), ("flag", "old", "old"), ("and", ("yes",)), ("or", ("yes",), None),
    ("has", "id", "town", "id"), (1, ("yes",)), (None, None), (["yes"],),
    nested(20, lambda kernel: (kernel,), ()), nested(20, lambda kernel: [kernel], []),
    nested(20, lambda kernel: {"a": kernel}, {}), nested(19, lambda kernel: ("not", kernel), ("nay",)),
    list(range(2000)), tuple(range(2000)), {number: number for number in range(2000)}, "a" * 2000,
]


def objects():
    """Return the objects anew, so that no test can spoil them for another one."""
    return deepcopy(OBJECTS)


def same(one, other):
    """Return whether two objects are equal with True and 1, False and 0 told apart."""
    return one == other and repr(one) == repr(other)


def plainly_meets(schema, rows, table, index, condition):
    """Ask row by row what point [5] says, word by word."""
    word = condition[0]
    if word == "yes":
        return True
    if word == "flag":
        return rows[table][index][1][schema.flags(table).index(condition[1])]
    if word == "not":
        return not plainly_meets(schema, rows, table, index, condition[1])
    if word in ("and", "or"):
        answers = [plainly_meets(schema, rows, table, index, part) for part in condition[1:]]
        return all(answers) if word == "and" else any(answers)
    _, column, other, target, part = condition
    names = {name: [own for own, _ in schema.columns(name)] for name in schema.tables}
    value = rows[table][index][0][names[table].index(column)]
    at = names[other].index(target)
    return any(
        values[at] == value and plainly_meets(schema, rows, other, number, part)
        for number, (values, _) in enumerate(rows[other])
    )


def some_condition(random, schema, table, levels):
    """Return a condition of at most so many levels."""
    words = ["yes"] + (["flag"] * 3 if schema.flags(table) else [])
    words += ["not", "and", "or", "has", "has"] if levels > 1 else []
    word = random.choice(words)
    if word == "yes":
        return ("yes",)
    if word == "flag":
        return ("flag", random.choice(schema.flags(table)))
    if word == "has":
        column, kind = random.choice(schema.columns(table))
        other, target = random.choice(schema.places(kind))
        return ("has", column, other, target, some_condition(random, schema, other, levels - 1))
    many = 1 if word == "not" else 2
    return (word,) + tuple(some_condition(random, schema, table, levels - 1) for _ in range(many))


def some_rows(random, schema):
    """Return a few rows with a few values."""
    return {
        table: [
            (tuple(random.randrange(4) for _ in schema.columns(table)),
             tuple(random.choice((False, True)) for _ in schema.flags(table)))
            for _ in range(random.randrange(5))
        ]
        for table in schema.tables
    }


def doubled(levels, word, kernel):
    """Return a condition of so many levels in which each level has two of the next one."""
    return nested(levels - 1, lambda part: (word, part, part), kernel)
