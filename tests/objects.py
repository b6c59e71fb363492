"""What several tests need: objects of all kinds, schemas, books and rows at random, and points read word by word.

The objects are for the calls that raise their errors for any object.
"""

from copy import deepcopy
from itertools import product

from toldbyrest.schemas import Schema


def nested(depth, wrap, kernel):
    """Return a kernel that is wrapped so many times."""
    for _ in range(depth):
        kernel = wrap(kernel)
    return kernel


# The names, tables, columns and flags of the schemas of the tests do not stand here alone.
OBJECTS = [
    None, True, False, 0, 1, -1, 7, -12, 10 ** 39, -10 ** 39,
    "", " ", "a b", "tab\there", "line\nfeed", "~", "0", "True", "None", "yes", "Town", "town ", "nowhere",
    (), [], {}, (None,), [None], (True,), (0,), [0], ("yes",), ["yes"], (("yes",),), ("flag",), ("has",), ("not",),
    ["town"], ("town",), {"town": 1}, {"town": []}, {0: 0}, {-1: "a"}, {("town", "old"): 1}, {("a", (True, None)): []},
    [[], {}], ([], {}), {"a": {"b": [()]}}, [("town", "old")], (("id", "town"),), ((1,), (True,)),
    ("town", (False,), ()), ("yes", "yes"), ("flag", "old", "old"), ("and", ("yes",)), ("or", ("yes",), None),
    ("has", "id", "town", "id"), (1, ("yes",)), (None, None), (["yes"],),
    nested(20, lambda kernel: (kernel,), ()), nested(20, lambda kernel: [kernel], []),
    nested(20, lambda kernel: {"a": kernel}, {}), nested(19, lambda kernel: ("not", kernel), ("nay",)),
    list(range(2000)), tuple(range(2000)), {number: number for number in range(2000)}, "a" * 2000,
]


def objects():
    """Return the objects anew, so that no test can spoil them for another one."""
    return deepcopy(OBJECTS)


def same(one, other):
    """Return whether two objects are equal with True and 1, False and 0 told apart."""
    return one == other and repr(one) == repr(other)


def plainly_meets(schema, rows, table, index, condition):
    """Ask row by row what point [5] says, word by word."""
    word = condition[0]
    if word == "yes":
        return True
    if word == "flag":
        return rows[table][index][1][schema.flags(table).index(condition[1])]
    if word == "not":
        return not plainly_meets(schema, rows, table, index, condition[1])
    if word in ("and", "or"):
        answers = [plainly_meets(schema, rows, table, index, part) for part in condition[1:]]
        return all(answers) if word == "and" else any(answers)
    _, column, other, target, part = condition
    names = {name: [own for own, _ in schema.columns(name)] for name in schema.tables}
    value = rows[table][index][0][names[table].index(column)]
    at = names[other].index(target)
    return any(
        values[at] == value and plainly_meets(schema, rows, other, number, part)
        for number, (values, _) in enumerate(rows[other])
    )


def some_condition(random, schema, table, levels):
    """Return a condition of at most so many levels."""
    words = ["yes"] + (["flag"] * 3 if schema.flags(table) else [])
    words += ["not", "and", "or", "has", "has"] if levels > 1 else []
    word = random.choice(words)
    if word == "yes":
        return ("yes",)
    if word == "flag":
        return ("flag", random.choice(schema.flags(table)))
    if word == "has":
        column, kind = random.choice(schema.columns(table))
        other, target = random.choice(schema.places(kind))
        return ("has", column, other, target, some_condition(random, schema, other, levels - 1))
    many = 1 if word == "not" else 2
    return (word,) + tuple(some_condition(random, schema, table, levels - 1) for _ in range(many))


def some_rows(random, schema):
    """Return a few rows with a few values."""
    return {
        table: [
            (tuple(random.randrange(4) for _ in schema.columns(table)),
             tuple(random.choice((False, True)) for _ in schema.flags(table)))
            for _ in range(random.randrange(5))
        ]
        for table in schema.tables
    }


def doubled(levels, word, kernel):
    """Return a condition of so many levels in which each level has two of the next one."""
    return nested(levels - 1, lambda part: (word, part, part), kernel)


def some_schema(random):
    """Return a schema of one to three tables with a few columns of two kinds and a few flags."""
    tables = {}
    for table in random.sample(["land", "shop", "town"], random.choice((1, 1, 2, 2, 2, 3))):
        columns = tuple((name, random.choice(("k", "k", "m"))) for name in ("at", "by", "id")[:random.choice((1, 1, 2, 2, 3))])
        tables[table] = (columns, ("busy", "old")[:random.choice((0, 1, 1, 2))])
    return Schema(tables)


def some_book(random, schema, most_rules=3, most_looks=3, levels=5):
    """Return a book with not too many looks, rather with looks than without."""
    least_looks = random.choice((0, 1, 1, 1, 2, 2))
    for _ in range(200):
        tables = [random.choice(schema.tables) for _ in range(random.randint(1, most_rules))]
        book = [(table, some_condition(random, schema, table, levels)) for table in tables]
        if least_looks <= len(Plain(schema, book).looks) <= most_looks:
            return book
    return []


def exactly(flag, condition):
    """Return the condition that a row has a flag exactly if it meets another condition."""
    return ("or", ("and", ("flag", flag), condition), ("and", ("not", ("flag", flag)), ("not", condition)))


def some_telling_book(random, schema, most_looks=3):
    """Return a book by which some flags are told by others, with not too many looks, and these flag places."""
    for _ in range(200):
        places = random.sample(schema.flag_places, random.randint(1, min(3, len(schema.flag_places))))
        book = [(table, exactly(flag, some_condition(random, schema, table, 4))) for table, flag in places]
        if random.random() < 0.4:
            table = random.choice(schema.tables)
            book.append((table, some_condition(random, schema, table, 3)))
        if 0 < len(Plain(schema, book).looks) <= most_looks:
            return book, places
    return [], []


def chain():
    """Return a schema of four tables, rules by which each tells the next one, and the flag places that they tell."""
    schema = Schema({
        "a": ((("i", "k"),), ("f",)), "b": ((("i", "k"), ("j", "m")), ("f",)), "c": ((("j", "m"), ("l", "n")), ("f",)),
        "d": ((("l", "n"),), ("f",)),
    })
    has = {
        "b": ("has", "i", "a", "i", ("flag", "f")), "c": ("has", "j", "b", "j", ("flag", "f")),
        "d": ("has", "l", "c", "l", ("flag", "f")),
    }
    return schema, [(table, exactly("f", has[table])) for table in has], [(table, "f") for table in has]


def all_kinds(schema):
    """Return the kinds of all columns."""
    return sorted({kind for table in schema.tables for _, kind in schema.columns(table)})


class Plain:
    """Points [9] to [13], read word by word, for small schemas and books."""

    def __init__(self, schema, book):
        self.schema = schema
        self.looks = []
        for table, condition in book:
            self.find_looks(table, condition)
        self.row_kinds = {table: self.row_kinds_of(book, table) for table in schema.tables}

    def find_looks(self, table, condition):
        if condition[0] == "has":
            if (table,) + condition[1:] not in self.looks:
                self.looks.append((table,) + condition[1:])
            self.find_looks(condition[2], condition[4])
        for part in {"not": condition[1:], "and": condition[1:], "or": condition[1:]}.get(condition[0], ()):
            self.find_looks(table, part)

    def answer(self, row_kind, look):
        own = [own for own in self.looks if own[0] == row_kind[0]]
        return row_kind[2][own.index(look)]

    def meets(self, row_kind, condition):
        """Return whether a row kind meets a condition if its answers tell which "has" are met."""
        table, flags, _ = row_kind
        word = condition[0]
        if word == "flag":
            return flags[self.schema.flags(table).index(condition[1])]
        if word == "has":
            return self.answer(row_kind, (table,) + condition[1:])
        if word == "not":
            return not self.meets(row_kind, condition[1])
        answers = [self.meets(row_kind, part) for part in condition[1:]]
        return any(answers) if word == "or" else all(answers)

    def row_kinds_of(self, book, table):
        many = len([look for look in self.looks if look[0] == table])
        views = [
            (table, flags, answers)
            for flags in product((False, True), repeat=len(self.schema.flags(table)))
            for answers in product((False, True), repeat=many)
        ]
        return [view for view in views if all(self.meets(view, rule[1]) for rule in book if rule[0] == table)]

    def gives(self, row_kind, look):
        return look[2] == row_kind[0] and self.meets(row_kind, look[4])

    def looks_through(self, kind):
        return [look for look in self.looks if self.schema.kind_of(look[0], look[1]) == kind]

    def meetings(self, kind):
        return [(kind, answers) for answers in product((False, True), repeat=len(self.looks_through(kind)))]

    def fits(self, row_kind, column, meeting):
        table = row_kind[0]
        kind, answers = meeting
        if self.schema.kind_of(table, column) != kind:
            return False
        for look, answer in zip(self.looks_through(kind), answers):
            if look[:2] == (table, column) and self.answer(row_kind, look) != answer:
                return False
            if look[2:4] == (table, column) and not answer and self.gives(row_kind, look):
                return False
        return True

    def asked(self, meeting):
        """Return the looks that a meeting answers with True."""
        return [look for look, answer in zip(self.looks_through(meeting[0]), meeting[1]) if answer]

    def is_kind_struck(self, there, row_kind):
        """Return whether a row kind is struck in a round if just these row kinds are not struck in earlier ones."""
        return not all(
            any(
                self.fits(row_kind, column, meeting) and all(
                    any(
                        other[0] == look[2] and self.fits(other, look[3], meeting) and self.gives(other, look)
                        for other in there
                    )
                    for look in self.asked(meeting)
                )
                for meeting in self.meetings(kind)
            )
            for column, kind in self.schema.columns(row_kind[0])
        )

    def rounds_of_kinds(self):
        there = [row_kind for table in self.schema.tables for row_kind in self.row_kinds[table]]
        found = {}
        for number in range(1, 10 ** 6):
            struck = [row_kind for row_kind in there if self.is_kind_struck(there, row_kind)]
            if not struck:
                return found
            found.update({row_kind: number for row_kind in struck})
            there = [row_kind for row_kind in there if row_kind not in struck]

    def left(self, table):
        struck = self.rounds_of_kinds()
        return [row_kind for row_kind in self.row_kinds[table] if row_kind not in struck]

    def first_candidates(self, rows):
        """Return the dict from tuples (table, index) to the candidates of a row."""
        left = {table: self.left(table) for table in self.schema.tables}
        return {
            (table, index): [
                row_kind for row_kind in left[table]
                if all(kept is None or kept == flag for kept, flag in zip(flags, row_kind[1]))
            ]
            for table in self.schema.tables for index, (_, flags) in enumerate(rows[table])
        }

    def places_with(self, rows, kind, value):
        """Return all tuples (table, column, index) of a row that has the value in a place of the kind."""
        return [
            (table, column, index)
            for table in self.schema.tables
            for at, (column, own) in enumerate(self.schema.columns(table)) if own == kind
            for index, (values, _) in enumerate(rows[table]) if values[at] == value
        ]

    def is_possible(self, rows, there, meeting, value):
        """Return whether a meeting has all that [12] asks for at a value, by the candidates that are there."""
        standing = self.places_with(rows, meeting[0], value)
        return all(
            any(self.fits(row_kind, column, meeting) for row_kind in there[table, index])
            for table, column, index in standing
        ) and all(
            any(
                self.fits(row_kind, column, meeting) and self.gives(row_kind, look)
                for table, column, index in standing if (table, column) == look[2:4]
                for row_kind in there[table, index]
            )
            for look in self.asked(meeting)
        )

    def is_candidate_struck(self, rows, there, table, index, row_kind):
        """Return whether a candidate of a row is struck in a round if just these are not struck in earlier ones."""
        return not all(
            any(
                self.fits(row_kind, column, meeting) and self.is_possible(rows, there, meeting, value)
                for meeting in self.meetings(kind)
            )
            for (column, kind), value in zip(self.schema.columns(table), rows[table][index][0])
        )

    def stages_of_candidates(self, rows):
        """Return the list of the candidates behind 0, 1, .. rounds; the last ones are never struck."""
        found = [self.first_candidates(rows)]
        while True:
            there = found[-1]
            after = {
                (table, index): [
                    row_kind for row_kind in there[table, index]
                    if not self.is_candidate_struck(rows, there, table, index, row_kind)
                ]
                for table, index in there
            }
            if after == there:
                return found
            found.append(after)

    def pairs(self, lacking, table):
        left = self.left(table)
        return [
            (first, second) for first in left for second in left
            if all(
                one == other for flag, one, other in zip(self.schema.flags(table), first[1], second[1])
                if (table, flag) not in lacking
            )
        ]

    def have_all(self, there, one, other):
        """Return whether two meetings have all that [13] asks for, by the pairs that are there."""
        return all(
            any(
                pair[0][0] == look[2] and self.fits(pair[0], look[3], one) and self.fits(pair[1], look[3], other)
                and self.gives(pair[side], look)
                for pair in there
            )
            for side, meeting in enumerate((one, other)) for look in self.asked(meeting)
        )

    def meetings_with_all(self, there):
        """Return the list of the tuples of two meetings of a kind that have all that [13] asks for."""
        return [
            (one, other) for kind in all_kinds(self.schema)
            for one in self.meetings(kind) for other in self.meetings(kind) if self.have_all(there, one, other)
        ]

    def is_pair_struck(self, meetings, pair):
        """Return whether a pair is struck in a round in which just these tuples of two meetings have all."""
        return not all(
            any(self.fits(pair[0], column, one) and self.fits(pair[1], column, other) for one, other in meetings)
            for column, _ in self.schema.columns(pair[0][0])
        )

    def stages_of_pairs(self, lacking):
        """Return the list of the pairs of all tables behind 0, 1, .. rounds; the last ones are never struck."""
        found = [[pair for table in self.schema.tables for pair in self.pairs(lacking, table)]]
        while True:
            meetings = self.meetings_with_all(found[-1])
            after = [pair for pair in found[-1] if not self.is_pair_struck(meetings, pair)]
            if after == found[-1]:
                return found
            found.append(after)

    def rounds_of_pairs(self, lacking):
        stages = self.stages_of_pairs(lacking)
        return {
            pair: number for number in range(1, len(stages)) for pair in stages[number - 1] if pair not in stages[number]
        }


def plainly_near(schema, rows, table, index, steps):
    """Return the tuples (table, index) of the rows that are at most so many steps from one, read from [36]."""
    def values_of(name, at):
        return {(kind, value) for (_, kind), value in zip(schema.columns(name), rows[name][at][0])}

    found = {(table, index)}
    for _ in range(steps):
        seen = set().union(*(values_of(*row) for row in found))
        found |= {(name, at) for name in schema.tables for at in range(len(rows[name])) if seen & values_of(name, at)}
    return found


def plainly_cut_out(schema, rows, table, index, steps):
    """Return the rows that are at most so many steps from one, and its index among them, read from [36]."""
    near = plainly_near(schema, rows, table, index, steps)
    cut = {name: [row for at, row in enumerate(rows[name]) if (name, at) in near] for name in schema.tables}
    return cut, len([at for at in range(index) if (table, at) in near])
