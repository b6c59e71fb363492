"""Stores: points [2], [14] and [38]."""

import unittest
from copy import deepcopy
from random import Random

from tests.objects import chain, exactly, objects, same, some_rows, some_schema, some_telling_book
from toldbyrest.candidates import worked_out
from toldbyrest.errors import (
    InvalidBook, InvalidLacking, InvalidRows, NothingToUndo, NotTold, UnknownFlag, UnknownRow, UnknownTable,
)
from toldbyrest.fillings import how_many, sure
from toldbyrest.lacking import bare, is_lacking
from toldbyrest.schemas import Schema
from toldbyrest.stores import Store
from toldbyrest.told import levels

SCHEMA = Schema({
    "town": ((("id", "town"), ("of", "town")), ("old", "busy")),
    "shop": ((("at", "town"),), ("open",)),
    "land": ((("id", "land"),), ()),
})
OF_TOWN = [("town", "busy")]
YES = ("yes",)
NO = ("not", YES)
OLD = ("flag", "old")
BUSY = ("flag", "busy")
OPEN = ("flag", "open")
SEEN = ("has", "id", "shop", "at", OPEN)
BOOK = [("town", exactly("busy", SEEN))]


def filled(store, rows):
    """Return a store into which rows are put."""
    for table in rows:
        for values, flags in rows[table]:
            store.put(table, values, flags)
    return store


def state(store):
    return [store.rows, store.told, store.sound]


class StoreTest(unittest.TestCase):
    def setUp(self):
        self.store = Store(SCHEMA, BOOK, OF_TOWN)

    def test_without_rows(self):
        nothing = {"land": [], "shop": [], "town": []}
        self.assertTrue(same(state(self.store), [nothing, nothing, True]))
        self.assertEqual(list(self.store.rows), SCHEMA.tables)
        self.assertEqual(list(self.store.told), SCHEMA.tables)
        self.assertEqual(len(self.store), 0)
        self.assertIs(Store(SCHEMA, [("town", NO)], OF_TOWN).sound, True)

    def test_put(self):
        self.assertTrue(same(self.store.put("town", (1, 2), (True, None)), 0))
        self.assertEqual(self.store.put("town", (1, 2), (True, None)), 1)
        self.assertEqual(self.store.put("shop", (1,), (True,)), 0)
        self.assertEqual(self.store.put("land", (5,), ()), 0)
        self.assertEqual(self.store.put("town", (10 ** 39, 2), (False, None)), 2)
        rows = {
            "land": [((5,), ())], "shop": [((1,), (True,))],
            "town": [((1, 2), (True, None)), ((1, 2), (True, None)), ((10 ** 39, 2), (False, None))],
        }
        self.assertTrue(same(self.store.rows, rows))
        told = dict(rows, town=[((1, 2), (True, True)), ((1, 2), (True, True)), ((10 ** 39, 2), (False, False))])
        self.assertTrue(same(self.store.told, told))
        self.assertIs(self.store.sound, True)
        self.assertEqual(len(self.store), 5)

    def test_turn(self):
        filled(self.store, {"shop": [((1,), (False,)), ((1,), (False,))], "town": [((1, 2), (True, None)), ((2, 2), (True, None))]})
        self.assertEqual(self.store.turn("shop", 1, "open"), [("town", 0, "busy")])
        self.assertEqual(self.store.rows["shop"], [((1,), (False,)), ((1,), (True,))])
        self.assertEqual(self.store.turn("shop", 0, "open"), [])
        self.assertEqual(self.store.turn("town", 0, "old"), [])
        self.assertEqual(self.store.rows["town"], [((1, 2), (False, None)), ((2, 2), (True, None))])
        self.assertEqual(self.store.turn("shop", 0, "open"), [])
        self.assertEqual(self.store.turn("shop", 1, "open"), [("town", 0, "busy")])
        self.assertEqual(len(self.store), 9)

    def test_drop(self):
        towns = [((value, value), (True, None)) for value in (1, 2, 1)]
        filled(self.store, {"town": towns, "shop": [((2,), (True,)), ((1,), (True,))]})
        self.assertEqual(self.store.drop("shop", 1), [("town", 0, "busy"), ("town", 2, "busy")])
        self.assertEqual(self.store.rows["shop"], [((2,), (True,))])
        # Rows behind move up, and the flags of rows that are there no longer do not count.
        self.assertEqual(self.store.drop("town", 0), [])
        self.assertEqual(self.store.told["town"], [((2, 2), (True, True)), ((1, 1), (True, False))])
        self.assertEqual(self.store.drop("shop", 0), [("town", 0, "busy")])
        self.assertEqual(self.store.drop("town", 1), [])
        self.assertEqual(self.store.drop("town", 0), [])
        self.assertTrue(same(state(self.store), [{"land": [], "shop": [], "town": []}] * 2 + [True]))

    def test_told_from_and_to_none(self):
        # A town is busy, and has a shop, so a town without a shop is told nothing.
        store = Store(SCHEMA, BOOK + [("town", ("has", "id", "shop", "at", YES))], OF_TOWN)
        filled(store, {"town": [((1, 1), (True, None)), ((1, 2), (False, None))]})
        self.assertEqual(store.told["town"], store.rows["town"])
        self.assertIs(store.sound, False)
        store.put("shop", (1,), (False,))
        self.assertEqual([flags for _, flags in store.told["town"]], [(True, False), (False, False)])
        self.assertIs(store.sound, True)
        self.assertEqual(store.drop("shop", 0), [("town", 0, "busy"), ("town", 1, "busy")])
        self.assertEqual(store.told["town"], store.rows["town"])
        # With rules that no row of these flags can keep, turning one flag makes all the difference.
        store = Store(SCHEMA, [("town", exactly("busy", OLD)), ("shop", OPEN), ("town", ("or", OLD, ("not", SEEN)))], OF_TOWN)
        filled(store, {"town": [((1, 1), (False, None))], "shop": [((1,), (True,))]})
        self.assertEqual([store.told["town"], store.sound], [[((1, 1), (False, False))], False])
        self.assertEqual(store.turn("town", 0, "old"), [("town", 0, "busy")])
        self.assertEqual([store.told["town"], store.sound], [[((1, 1), (True, True))], True])
        store = Store(SCHEMA, [("town", ("and", OLD, BUSY))], OF_TOWN)
        store.put("town", (1, 1), (False, None))
        self.assertEqual([store.told["town"], store.sound], [[((1, 1), (False, None))], False])
        self.assertEqual(store.turn("town", 0, "old"), [("town", 0, "busy")])
        self.assertEqual([store.told["town"], store.sound], [[((1, 1), (True, True))], True])
        self.assertEqual(store.turn("town", 0, "old"), [("town", 0, "busy")])
        self.assertEqual([store.told["town"], store.sound], [[((1, 1), (False, None))], False])

    def test_without_lacking_flags(self):
        store = Store(SCHEMA, BOOK, [])
        store.put("town", (1, 1), (True, True))
        self.assertEqual([store.told, store.sound], [store.rows, False])
        self.assertEqual(store.turn("town", 0, "busy"), [])
        self.assertIs(store.sound, True)
        store.put("shop", (1,), (True,))
        self.assertIs(store.sound, False)
        self.assertEqual(store.drop("shop", 0), [])
        self.assertIs(store.sound, True)

    def test_no_round_and_more_rounds(self):
        schema, book, lacking = chain()
        for some in (lacking, lacking[:2], lacking[:1], lacking[1:], lacking[2:]):
            store = Store(schema, book, some)
            rows = {"a": [((1,), (True,))], "b": [((1, 2), (True,))], "c": [((2, 3), (True,))], "d": [((3,), (True,))]}
            filled(store, bare(schema, rows, some))
            self.assertEqual([store.told, store.sound], [rows, True])
            told = [(table, 0, flag) for table, flag in some]
            if len(some) == 3:
                self.assertEqual(store.turn("a", 0, "f"), told)
                self.assertEqual(store.drop("a", 0), [])
            elif some == lacking[:2]:
                self.assertEqual(store.drop("a", 0), told)
                self.assertIs(store.sound, False)
        no_round = Store(SCHEMA, [("town", exactly("busy", OLD))], OF_TOWN)
        self.assertEqual(levels(SCHEMA, [("town", exactly("busy", OLD))], OF_TOWN), {("town", "busy"): 0})
        no_round.put("town", (1, 1), (True, None))
        self.assertEqual([no_round.told["town"], no_round.turn("town", 0, "old")], [[((1, 1), (True, True))], [("town", 0, "busy")]])
        # No pair differs as no row kind is left, so no round is needed; yet nothing is worked out in what cannot be.
        never = Store(SCHEMA, [("town", NO)], OF_TOWN)
        never.put("town", (1, 1), (True, None))
        self.assertEqual([never.told, never.sound], [never.rows, False])

    def test_told_behind_as_many_rounds_as_are_needed_and_no_more(self):
        # One round more would work out nothing else, or strike all candidates: what it tells is not asked for.
        schema, book, lacking = chain()
        random = Random(24)
        differing = 0
        for _ in range(200):
            rows = {table: [
                (tuple(random.randrange(3) for _ in schema.columns(table)), (random.choice((False, True)),)) for _ in range(3)
            ] for table in schema.tables}
            for some in (lacking[:2], [lacking[0], lacking[2]], lacking[1:]):
                store = filled(Store(schema, book, some), bare(schema, rows, some))
                number = max(levels(schema, book, some).values())
                self.assertEqual(store.told, worked_out(schema, book, some, store.rows, number))
                differing += store.told != worked_out(schema, book, some, store.rows, number + 5)
        self.assertGreater(differing, 0)

    def test_undo(self):
        self.assertRaises(NothingToUndo, self.store.undo)
        filled(self.store, {"town": [((1, 1), (True, None)), ((2, 2), (True, None))], "shop": [((1,), (True,))]})
        states = [state(self.store)]
        for call in (lambda: self.store.turn("shop", 0, "open"), lambda: self.store.drop("town", 0), lambda: self.store.drop("shop", 0)):
            call()
            states.append(state(self.store))
        self.assertEqual(len(self.store), 6)
        for expected in states[2::-1]:
            # Calls that raise are no calls to undo.
            self.assertRaises(UnknownRow, self.store.drop, "town", 9)
            self.assertRaises(UnknownFlag, self.store.turn, "town", 0, "busy")
            self.assertRaises(InvalidRows, self.store.put, "town", (1, 1), (True, True))
            self.assertIsNone(self.store.undo())
            self.assertTrue(same(state(self.store), expected))
        self.assertEqual(len(self.store), 3)
        for many in (2, 1, 0):
            self.store.undo()
            self.assertEqual(len(self.store), many)
        self.assertRaises(NothingToUndo, self.store.undo)
        self.assertTrue(same(state(self.store), state(Store(SCHEMA, BOOK, OF_TOWN))))

    def test_copy(self):
        filled(self.store, {"town": [((1, 1), (True, None))], "shop": [((1,), (True,))]})
        other = self.store.copy()
        self.assertIsInstance(other, Store)
        self.assertTrue(same(state(other), state(self.store)))
        before = state(self.store)
        self.assertEqual(other.turn("shop", 0, "open"), [("town", 0, "busy")])
        other.put("town", (3, 3), (False, None))
        self.assertTrue(same(state(self.store), before))
        self.assertEqual([len(self.store), len(other)], [2, 4])
        self.store.drop("shop", 0)
        self.store.drop("town", 0)
        self.assertEqual([len(rows) for rows in other.rows.values()], [0, 1, 2])
        for _ in range(4):
            other.undo()
        self.assertEqual(state(other), state(Store(SCHEMA, BOOK, OF_TOWN)))
        self.assertRaises(NothingToUndo, other.undo)
        for _ in range(2):
            self.store.undo()
        self.assertTrue(same(state(self.store), before))
        third = self.store.copy().copy()
        third.undo()
        self.assertEqual(third.rows["shop"], [])
        self.assertEqual(len(self.store), 2)

    def test_at_random(self):
        random = Random(38)
        seen = {}
        for _ in range(120):
            schema = some_schema(random)
            if not schema.flag_places:
                continue
            book, lacking = some_telling_book(random, schema, 2)
            if None in levels(schema, book, lacking).values():
                self.assertRaises(NotTold, Store, schema, book, lacking)
                continue
            store = Store(schema, book, lacking)
            states = []
            for _ in range(random.randint(5, 14)):
                states.append(state(store))
                self.call_some(random, schema, lacking, store)
                self.check(schema, book, lacking, store)
                self.assertEqual(len(store), len(states))
                seen[store.sound, any(None in flags for table in schema.tables for _, flags in store.told[table])] = True
            other = store.copy()
            for one in (store, other):
                for before in states[::-1]:
                    one.undo()
                    self.assertTrue(same(state(one), before))
                self.assertRaises(NothingToUndo, one.undo)
        self.assertEqual(set(seen), {(True, False), (False, False), (False, True)})

    def call_some(self, random, schema, lacking, store):
        """Put, drop or turn something, and check what is returned."""
        before = store.told
        table = random.choice(schema.tables)
        index = random.randrange(len(before[table]) or 1)
        kept = [flag for flag in schema.flags(table) if (table, flag) not in lacking]
        word = random.choice(("put", "put", "drop", "turn")) if before[table] else "put"
        if word == "put" or word == "turn" and not kept:
            values = tuple(random.randrange(3) for _ in schema.columns(table))
            flags = tuple(random.choice((False, True)) if flag in kept else None for flag in schema.flags(table))
            self.assertEqual(store.put(table, values, flags), len(before[table]))
            self.assertEqual(store.rows[table][-1], (values, flags))
            return
        if word == "drop":
            found = store.drop(table, index)
            del before[table][index]
        else:
            flag = random.choice(kept)
            found = store.turn(table, index, flag)
        after = store.told
        expected = sorted(
            (name, at, flag) for name, flag in lacking for at, (one, other) in enumerate(zip(before[name], after[name]))
            if one[1][schema.flags(name).index(flag)] is not other[1][schema.flags(name).index(flag)]
        )
        self.assertTrue(same(found, expected))

    def check(self, schema, book, lacking, store):
        """Check the state of a store by that of one that is made anew, and by what [25] and [20] say."""
        rows = store.rows
        self.assertTrue(same(state(filled(Store(schema, book, lacking), rows)), state(store)))
        number = max(levels(schema, book, lacking).values(), default=0)
        self.assertTrue(same(store.told, worked_out(schema, book, lacking, rows, number)))
        if sum(flags.count(None) for table in rows for _, flags in rows[table]) <= 8:
            many = how_many(schema, book, lacking, rows)
            self.assertIs(store.sound, many > 0)
            self.assertLessEqual(many, 1)
            if many:
                self.assertEqual(sure(schema, book, lacking, rows), store.told)

    def test_soundness_with_looks_within_looks(self):
        schema = Schema({"town": ((("id", "k"), ("of", "k")), ("old", "busy"))})
        inner = ("has", "of", "town", "id", OLD)
        book = [("town", ("has", "of", "town", "id", ("or", OLD, ("not", inner)))), ("town", exactly("busy", inner))]
        random = Random(12)
        seen = {}
        for _ in range(300):
            rows = bare(schema, some_rows(random, schema), OF_TOWN)
            store = filled(Store(schema, book, OF_TOWN), rows)
            expected = how_many(schema, book, OF_TOWN, rows) > 0
            self.assertIs(store.sound, expected)
            seen[expected, len(rows["town"]) > 1] = True
        self.assertEqual(len(seen), 4)

    def test_many_rows(self):
        store = Store(SCHEMA, BOOK, OF_TOWN)
        for value in range(1500):
            store.put("town", (value, value // 2), (value % 3 == 0, None))
            store.put("shop", (value // 2 * 2,), (value % 5 == 0,))
        self.assertEqual(sum(flags[1] for _, flags in store.told["town"]), 300)
        self.assertIs(store.sound, True)
        self.assertEqual(store.turn("shop", 10, "open"), [("town", 10, "busy")])
        self.assertEqual(store.drop("shop", 20), [("town", 20, "busy")])
        for _ in range(3002):
            store.undo()
        self.assertEqual(store.rows["shop"], [])

    def test_arguments_are_copied_and_what_is_returned_is_new(self):
        book, lacking = deepcopy(BOOK), list(OF_TOWN)
        tables = {table: (SCHEMA.columns(table), SCHEMA.flags(table)) for table in SCHEMA.tables}
        store = Store(lacking=lacking, book=book, schema=Schema(tables))
        tables.clear()
        book.clear()
        lacking.append(("town", "old"))
        self.assertEqual(store.put(flags=(True, None), values=(1, 1), table="town"), 0)
        self.assertEqual(store.put("shop", (1,), (True,)), 0)
        for read in (lambda: store.rows, lambda: store.told, lambda: store.copy().rows):
            found = read()
            again = deepcopy(found)
            self.assertEqual(len({id(part) for part in found.values()} | {id(part) for part in read().values()}), 6)
            for table in found:
                found[table].append(((9,), ()))
            found.clear()
            self.assertEqual(read(), again)
        changed = store.turn(flag="open", index=0, table="shop")
        self.assertEqual(changed, [("town", 0, "busy")])
        changed.clear()
        self.assertEqual(store.drop(index=0, table="shop"), [])
        self.assertEqual([store.told["town"], len(store)], [[((1, 1), (True, False))], 4])


class ErrorsTest(unittest.TestCase):
    def setUp(self):
        self.store = filled(Store(SCHEMA, BOOK, OF_TOWN), {"town": [((1, 1), (True, None))], "shop": [((1,), (True,))]})
        self.before = state(self.store)

    def tearDown(self):
        # A call that raises changes nothing.
        self.assertTrue(same(state(self.store), self.before))
        self.assertEqual(len(self.store), 2)

    def test_making_one(self):
        for thing in objects():
            with self.subTest(repr(thing)[:60]):
                if not same(thing, []):
                    self.assertRaises(InvalidBook, Store, SCHEMA, thing, OF_TOWN)
                    self.assertRaises(InvalidBook, Store, SCHEMA, thing, thing)
                self.assertRaises(InvalidBook, Store, SCHEMA, [thing], OF_TOWN)
                if not is_lacking(SCHEMA, thing):
                    self.assertRaises(InvalidLacking, Store, SCHEMA, BOOK, thing)
                    self.assertRaises(InvalidLacking, Store, SCHEMA, [], thing)
        for lacking in (OF_TOWN * 2, tuple(OF_TOWN), [["town", "busy"]], [("town", "id")], [("town",)], [("town", "open")]):
            self.assertRaises(InvalidLacking, Store, SCHEMA, [], lacking)
        for book in (BOOK * 7, tuple(BOOK), [list(BOOK[0])], [("shop", BUSY)]):
            self.assertRaises(InvalidBook, Store, SCHEMA, book, [("town", "old")])

    def test_not_told(self):
        for lacking in ([("town", "old")], OF_TOWN + [("town", "old")], OF_TOWN + [("shop", "open")], [("shop", "open")]):
            self.assertRaises(NotTold, Store, SCHEMA, BOOK, lacking)
        self.assertRaises(NotTold, Store, SCHEMA, [], OF_TOWN)
        self.assertRaises(NotTold, Store, SCHEMA, [], [("shop", "open")])

    def test_put(self):
        for thing in objects():
            with self.subTest(repr(thing)[:60]):
                self.assertRaises(UnknownTable, self.store.put, thing, (1, 1), (True, None))
                self.assertRaises(UnknownTable, self.store.put, thing, thing, thing)
                self.assertRaises(InvalidRows, self.store.put, "town", thing, (True, None))
                self.assertRaises(InvalidRows, self.store.put, "town", (1, thing) if not same(thing, 7) else (1,), thing)
                self.assertRaises(InvalidRows, self.store.put, "town", (1, 1), thing)
                self.assertRaises(InvalidRows, self.store.put, "town", thing, thing)
                if thing not in ((), 0, 1):
                    self.assertRaises(InvalidRows, self.store.put, "land", (1,), thing)
                if not (isinstance(thing, int) and not isinstance(thing, bool) and thing >= 0):
                    self.assertRaises(InvalidRows, self.store.put, "land", (thing,), ())
        wrong = [
            ((1, 1), (True, True)), ((1, 1), (None, None)), ((1, 1), (None, True)), ((1, 1), (1, None)), ((1, 1), (True, 0)),
            ((1, 1), (True,)), ((1, 1), (True, None, None)), ((1,), (True, None)), ((1, 1, 1), (True, None)), ((1, -1), (True, None)),
            ((1, True), (True, None)), ([1, 1], (True, None)), ((1, 1), [True, None]), ((1, "1"), (True, None)), ((1, 1), ()),
        ]
        for values, flags in wrong:
            self.assertRaises(InvalidRows, self.store.put, "town", values, flags)
        self.assertRaises(InvalidRows, self.store.put, "land", (1,), (True,))
        self.assertRaises(UnknownTable, self.store.put, "sea", (1, 1), (True, None))

    def test_drop(self):
        for thing in objects():
            with self.subTest(repr(thing)[:60]):
                self.assertRaises(UnknownTable, self.store.drop, thing, 0)
                self.assertRaises(UnknownTable, self.store.drop, thing, thing)
                if not same(thing, 0):
                    self.assertRaises(UnknownRow, self.store.drop, "town", thing)
        for index in (1, -1, True, False, None, "0", (0,), 10 ** 39):
            self.assertRaises(UnknownRow, self.store.drop, "town", index)
        self.assertRaises(UnknownRow, self.store.drop, "land", 0)
        self.assertRaises(UnknownTable, self.store.drop, "sea", 0)

    def test_turn(self):
        for thing in objects():
            with self.subTest(repr(thing)[:60]):
                self.assertRaises(UnknownTable, self.store.turn, thing, 0, "old")
                self.assertRaises(UnknownTable, self.store.turn, thing, thing, thing)
                if not same(thing, 0):
                    self.assertRaises(UnknownRow, self.store.turn, "town", thing, "old")
                    self.assertRaises(UnknownRow, self.store.turn, "town", thing, thing)
                self.assertRaises(UnknownFlag, self.store.turn, "town", 0, thing)
        for flag in ("busy", "open", "id", "town", ["old"], ("town", "old"), None):
            self.assertRaises(UnknownFlag, self.store.turn, "town", 0, flag)
        self.assertRaises(UnknownRow, self.store.turn, "town", 1, "busy")
        self.assertRaises(UnknownRow, self.store.turn, "land", 0, "old")
        self.assertRaises(UnknownTable, self.store.turn, "sea", 9, "busy")

    def test_a_store_behind_errors(self):
        store = Store(SCHEMA, BOOK, OF_TOWN)
        for call, error in ((store.undo, NothingToUndo), (lambda: store.drop("town", 0), UnknownRow)):
            self.assertRaises(error, call)
            self.assertEqual([len(store), store.rows["town"]], [0, []])


if __name__ == "__main__":
    unittest.main()
