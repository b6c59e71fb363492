"""Papers: points [2], [13] and [29]."""

import unittest
from copy import deepcopy
from random import Random

from tests.objects import Plain, chain, exactly, objects, same, some_schema, some_telling_book
from toldbyrest.errors import InvalidBook, InvalidLacking, InvalidPair
from toldbyrest.lacking import is_lacking
from toldbyrest.pairs import pairs, rounds_of_pairs
from toldbyrest.papers import is_paper, paper
from toldbyrest.schemas import Schema

SCHEMA = Schema({
    "town": ((("id", "town"), ("of", "town")), ("old", "busy")),
    "shop": ((("at", "town"),), ("open",)),
    "land": ((("id", "land"),), ()),
})
OF_TOWN = [("town", "busy")]
YES = ("yes",)
OLD = ("flag", "old")
OPEN = ("flag", "open")
SEEN = ("has", "id", "shop", "at", OPEN)
BOOK = [("town", exactly("busy", SEEN))]
QUIET = ("town", (True, False), (False,))
BUSY = ("town", (True, True), (True,))
YOUNG = ("town", (False, True), (True,))
LAND = ("land", (), ())
SHUT, OPENED = ("shop", (False,), ()), ("shop", (True,), ())
PAIR = (QUIET, BUSY)
STRUCK = {PAIR: 1, (BUSY, QUIET): 1}
WRONG_PAIRS = [
    (QUIET,), (QUIET, BUSY, BUSY), (), QUIET, [QUIET, BUSY], (QUIET, None), (None, BUSY), (QUIET, list(BUSY)), "ab", ("a", "b"),
    # Other kept flags, another table, an answer that the rule forbids, what only looks like a row kind.
    (BUSY, YOUNG), (YOUNG, QUIET), (QUIET, OPENED), (LAND, BUSY), (SHUT, OPENED), (QUIET, ("town", (True, True), (False,))),
    (("town", (True, False), (True,)), BUSY), (("town", (1, 0), (0,)), BUSY), (QUIET, ("town", (True, 1), (True,))),
    (QUIET, ("town", (True, True), (1,))), (QUIET, ("town", (True, None), (True,))), (QUIET, ("town", (True, True))),
    (QUIET, ("town", (True, True), (True,), ())), (QUIET, ("town", (True,), (True,))), (QUIET, ("town", (True, True), ())),
    (QUIET, ("sea", (True, True), (True,))), (QUIET, ("town", [True, True], (True,))), (PAIR, PAIR), (QUIET[1:], BUSY[1:]),
]
WRONG_NUMBERS = (0, -1, True, False, None, "1", (), (1,), [1], {}, -10 ** 39)
CALLS = [(is_paper, [STRUCK]), (paper, [PAIR])]


def plainly_is_paper(plain, lacking, thing):
    """Read word by word whether a dict from pairs to numbers from 1 on is a paper."""
    everything = plain.stages_of_pairs(lacking)[0]
    for pair, number in thing.items():
        there = [other for other in everything if thing.get(other, number) >= number]
        if not plain.is_pair_struck(plain.meetings_with_all(there), pair):
            return False
    return True


def hashable(thing):
    """Return whether a thing can be the key of a dict."""
    try:
        hash(thing)
    except TypeError:
        return False
    return True


class IsPaperTest(unittest.TestCase):
    def check(self, thing, expected):
        self.assertIs(is_paper(SCHEMA, BOOK, OF_TOWN, thing), expected)

    def test_papers(self):
        for number in (1, 2, 7, 10 ** 39):
            self.check({PAIR: number}, True)
            self.check({**STRUCK, PAIR: number}, True)
        self.check(STRUCK, True)
        self.check({}, True)
        self.assertIs(is_paper(SCHEMA, [], [], {}), True)

    def test_each_pair_goes_by_lesser_numbers(self):
        schema, book, lacking = chain()
        rounds = rounds_of_pairs(schema, book, lacking)
        self.assertEqual(sorted(rounds.values()), [1, 1, 2, 2, 3, 3])
        self.assertIs(is_paper(schema, book, lacking, rounds), True)
        self.assertIs(is_paper(schema, book, lacking, {pair: 5 * number for pair, number in rounds.items()}), True)
        self.assertIs(is_paper(schema, book, lacking, {pair: number + 1 for pair, number in rounds.items()}), True)
        for number in (1, 2, 3):
            # What strikes a pair has lesser numbers, not greater ones or equal ones.
            for pair in [pair for pair in rounds if rounds[pair] == number]:
                for other in range(1, 6):
                    expected = other >= number if number == 3 else number == 1 and other == 1 or number == 2 and other == 2
                    self.assertIs(is_paper(schema, book, lacking, {**rounds, pair: other}), expected)
            fewer = {pair: rounds[pair] for pair in rounds if rounds[pair] != number}
            self.assertIs(is_paper(schema, book, lacking, fewer), number == 3)

    def test_pairs_that_are_left(self):
        for pair in ((QUIET, QUIET), (BUSY, BUSY), (YOUNG, YOUNG), (LAND, LAND), (SHUT, SHUT)):
            self.check({pair: 1}, False)
            self.check({pair: 9, **STRUCK}, False)

    def test_keys_are_pairs(self):
        for pair in WRONG_PAIRS:
            if hashable(pair):
                with self.subTest(pair):
                    self.check({pair: 1}, False)
                    self.check({pair: 2, (BUSY, QUIET): 1}, False)
        # A pair of row kinds that are struck in all data is none.
        book = BOOK + [("shop", ("not", OPEN))]
        self.assertIs(is_paper(SCHEMA, book, OF_TOWN, {PAIR: 1}), False)
        # With other lacking flags, other pairs are pairs.
        self.assertIs(is_paper(SCHEMA, BOOK, [], {PAIR: 1}), False)
        self.assertIs(is_paper(SCHEMA, BOOK, OF_TOWN + [("town", "old")], {(QUIET, YOUNG): 1}), True)
        self.assertIs(is_paper(SCHEMA, BOOK, OF_TOWN + [("shop", "open")], {PAIR: 1}), False)

    def test_numbers_are_integers_from_1_on(self):
        for number in WRONG_NUMBERS:
            with self.subTest(number):
                self.check({PAIR: number}, False)
                self.check({**STRUCK, PAIR: number}, False)

    def test_any_thing(self):
        for thing in objects() + [list(STRUCK.items()), tuple(STRUCK.items()), [STRUCK], (STRUCK,), list(STRUCK), PAIR]:
            with self.subTest(repr(thing)[:60]):
                self.check(thing, same(thing, {}))
                self.check({PAIR: thing}, isinstance(thing, int) and thing > 0 and thing is not True)
                if hashable(thing) and thing != PAIR:
                    self.check({thing: 1}, False)
                    self.check({(QUIET, thing): 1}, False)


class PaperTest(unittest.TestCase):
    def check(self, schema, book, lacking, pair, plain=None):
        found = paper(schema, book, lacking, pair)
        self.assertIn(pair, found)
        self.assertEqual(list(found), sorted(found))
        self.assertTrue(all(same(number, int(number)) and number > 0 for number in found.values()))
        self.assertIs(is_paper(schema, book, lacking, found), True)
        if plain:
            self.assertTrue(plainly_is_paper(plain, lacking, found))
        return found

    def test_papers(self):
        self.check(SCHEMA, BOOK, OF_TOWN, PAIR)
        schema, book, lacking = chain()
        for pair, number in rounds_of_pairs(schema, book, lacking).items():
            found = self.check(schema, book, lacking, pair, Plain(schema, book))
            self.assertGreaterEqual(len(found), number)

    def test_pairs_that_are_left(self):
        for pair in ((QUIET, QUIET), (BUSY, BUSY), (LAND, LAND), (SHUT, SHUT)):
            self.assertIsNone(paper(SCHEMA, BOOK, OF_TOWN, pair))
        self.assertIsNone(paper(SCHEMA, BOOK, OF_TOWN + [("shop", "open")], PAIR))
        self.assertIsNone(paper(SCHEMA, [], [], (LAND, LAND)))

    def test_no_pair(self):
        for thing in WRONG_PAIRS + objects():
            with self.subTest(repr(thing)[:60]):
                self.assertRaises(InvalidPair, paper, SCHEMA, BOOK, OF_TOWN, thing)
                if thing != QUIET:
                    self.assertRaises(InvalidPair, paper, SCHEMA, BOOK, OF_TOWN, (QUIET, thing))
                    self.assertRaises(InvalidPair, paper, SCHEMA, BOOK, OF_TOWN, (thing, BUSY))
        for lacking in ([], [("town", "old")], [("shop", "open")]):
            self.assertRaises(InvalidPair, paper, SCHEMA, BOOK, lacking, PAIR)
        self.assertRaises(InvalidPair, paper, SCHEMA, BOOK + [("shop", ("not", OPEN))], OF_TOWN, PAIR)

    def test_as_the_document_says_it(self):
        random = Random(29)
        seen = {True: 0, False: 0}
        for _ in range(220):
            schema = some_schema(random)
            if not schema.flag_places:
                continue
            book, lacking = some_telling_book(random, schema)
            plain = Plain(schema, book)
            if sum(len(plain.pairs(lacking, table)) for table in schema.tables) <= 60:
                rounds = plain.rounds_of_pairs(lacking)
                everything = [pair for table in schema.tables for pair in pairs(schema, book, lacking, table)]
                for pair in random.sample(everything, min(3, len(everything))):
                    if pair in rounds:
                        self.check(schema, book, lacking, pair, plain)
                    else:
                        self.assertIsNone(paper(schema, book, lacking, pair))
                for _ in range(5):
                    thing = {
                        pair: max(1, number + random.choice((-1, 0, 0, 1)))
                        for pair, number in rounds.items() if random.random() < 0.8
                    }
                    thing.update({pair: random.randint(1, 3) for pair in everything if random.random() < 0.02})
                    expected = plainly_is_paper(plain, lacking, thing)
                    self.assertIs(is_paper(schema, book, lacking, thing), expected)
                    seen[expected] += len(thing) > 1
        self.assertGreater(min(seen.values()), 30)


class AllCallsTest(unittest.TestCase):
    def test_errors_for_any_objects(self):
        for call, more in CALLS:
            for thing in objects():
                with self.subTest(f"{call.__name__}: {repr(thing)[:60]}"):
                    if not same(thing, []):
                        self.assertRaises(InvalidBook, call, SCHEMA, thing, OF_TOWN, *more)
                        self.assertRaises(InvalidBook, call, SCHEMA, thing, thing, thing)
                    self.assertRaises(InvalidBook, call, SCHEMA, [thing], OF_TOWN, *more)
                    if not is_lacking(SCHEMA, thing):
                        self.assertRaises(InvalidLacking, call, SCHEMA, BOOK, thing, *more)
                        self.assertRaises(InvalidLacking, call, SCHEMA, BOOK, thing, thing)
            self.assertRaises(InvalidBook, call, SCHEMA, BOOK * 7, OF_TOWN, *more)
            self.assertRaises(InvalidBook, call, SCHEMA, None, None, None)
            self.assertRaises(InvalidLacking, call, SCHEMA, BOOK, OF_TOWN * 2, *more)
            self.assertRaises(InvalidLacking, call, SCHEMA, BOOK, tuple(OF_TOWN), None)

    def test_by_name_new_and_arguments_kept(self):
        book, lacking, thing = deepcopy(BOOK), list(OF_TOWN), dict(STRUCK)
        self.assertIs(is_paper(thing=thing, lacking=lacking, book=book, schema=SCHEMA), True)
        self.assertIs(is_paper(SCHEMA, book, lacking, dict(reversed(thing.items()))), True)
        found = paper(pair=PAIR, lacking=lacking, book=book, schema=SCHEMA)
        again = dict(found)
        found.clear()
        self.assertEqual(paper(SCHEMA, book, lacking, PAIR), again)
        self.assertRaises(InvalidPair, paper, SCHEMA, book, lacking, None)
        self.assertTrue(same([book, lacking, thing], [BOOK, OF_TOWN, STRUCK]))


if __name__ == "__main__":
    unittest.main()
