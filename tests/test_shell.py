"""The shell: points [2] and [39]."""

import unittest
from random import Random

from tests.objects import objects, some_schema, some_telling_book
from toldbyrest.errors import (
    DuplicateName, InvalidLacking, InvalidLine, InvalidName, InvalidRows, NothingToUndo, NotTold, ParseError, UnknownFlag,
    UnknownRow, UnknownStore, UnknownTable,
)
from toldbyrest.shell import Shell
from toldbyrest.stores import Store
from toldbyrest.texts import format_book, format_schema
from toldbyrest.told import levels

SCHEMA = "table,land/column,id,land/table,shop/column,at,town/flag,open/table,town/column,id,town/column,of,town/flag,old/flag,busy"
SEEN = "has,id,shop,at,flag,open"
BOOK = f"town,or,not,flag,busy,{SEEN}/town,or,flag,busy,not,{SEEN}"
OPEN = f"open main {SCHEMA} {BOOK} town.busy"
LINES = {"open": 5, "close": 2, "put": 5, "drop": 4, "turn": 5, "undo": 2, "show": 3, "sound": 2, "rounds": 4, "stores": 1}


def word_of(text):
    """Return the word that stands for a text."""
    return text.replace("\n", "/").replace(" ", ",")


class ShellTest(unittest.TestCase):
    def setUp(self):
        self.shell = Shell()
        self.assertEqual(self.shell.run(OPEN), "ok")

    def run_all(self, lines):
        return [self.shell.run(line) for line in lines]

    def test_lines_and_answers(self):
        lines = [
            "put main town 1,2 yu", "put main town 2,2 nu", "put main shop 1 n", "put main land 999999999 -", "put main shop 0 y",
        ]
        self.assertEqual(self.run_all(lines), ["0", "1", "0", "0", "1"])
        self.assertEqual(self.shell.run("show main town"), "1,2:yn 2,2:nn")
        self.assertEqual(self.shell.run("show main land"), "999999999:-")
        self.assertEqual(self.shell.run("turn main shop 0 open"), "town.0.busy")
        self.assertEqual(self.run_all(["show main town", "show main shop"]), ["1,2:yy 2,2:nn", "1:y 0:y"])
        self.assertEqual(self.run_all(["turn main town 0 old", "show main town"]), ["none", "1,2:ny 2,2:nn"])
        self.assertEqual(self.run_all(["sound main", "rounds main town busy", "stores"]), ["yes", "1", "main"])
        self.assertEqual(self.run_all(["undo main", "undo main", "show main town"]), ["ok", "ok", "1,2:yn 2,2:nn"])
        self.assertEqual(self.run_all(["put main town 1,1 yu", "turn main shop 0 open"]), ["2", "town.0.busy town.2.busy"])
        self.assertEqual(self.run_all(["drop main town 0", "drop main shop 0", "show main town"]), ["none", "town.1.busy", "2,2:nn 1,1:yn"])
        self.assertEqual(self.run_all(["drop main land 0", "show main land"]), ["none", "none"])

    def test_what_is_not_worked_out_and_not_sound(self):
        self.assertEqual(self.shell.run(f"open other {SCHEMA} {BOOK}/town,has,id,shop,at,yes town.busy"), "ok")
        self.assertEqual(self.run_all(["put other town 4,4 yu", "show other town", "sound other"]), ["0", "4,4:yu", "no"])
        self.assertEqual(self.run_all(["put other shop 4 n", "show other town", "sound other"]), ["0", "4,4:yn", "yes"])
        self.assertEqual(self.run_all(["drop other shop 0", "show other town"]), ["town.0.busy", "4,4:yu"])

    def test_several_stores(self):
        self.assertEqual(self.shell.run(f"open also {SCHEMA} - -"), "ok")
        self.assertEqual(self.shell.run("open third table,a/column,i,k - -"), "ok")
        self.assertEqual(self.shell.run("stores"), "also main third")
        self.assertEqual(self.run_all(["put also town 1,1 yy", "put main town 2,2 yu"]), ["0", "0"])
        self.assertEqual(self.run_all(["show also town", "show main town", "show third a"]), ["1,1:yy", "2,2:yn", "none"])
        self.assertEqual(self.run_all(["undo also", "show also town", "show main town"]), ["ok", "none", "2,2:yn"])
        self.assertEqual(self.run_all(["close main", "stores", "close also", "close third", "stores"]), ["ok", "also third", "ok", "ok", "none"])
        # A store that is opened anew has no rows, and nothing to undo.
        self.assertEqual(self.run_all([OPEN, "show main town", "stores"]), ["ok", "none", "main"])
        self.assertRaises(NothingToUndo, self.shell.run, "undo main")
        self.assertEqual(Shell().run("stores"), "none")

    def test_rounds(self):
        tables = "table,a/column,i,k/flag,f/table,b/column,i,k/column,j,m/flag,f/table,c/column,j,m/flag,f"
        both = [f"or,and,flag,f,{ask},and,not,flag,f,not,{ask}" for ask in ("has,i,a,i,flag,f", "has,j,b,j,flag,f")]
        self.assertEqual(self.shell.run(f"open two {tables} b,{both[0]}/c,{both[1]} c.f,b.f"), "ok")
        self.assertEqual(self.run_all(["rounds two b f", "rounds two c f"]), ["1", "2"])
        self.assertEqual(self.shell.run("open none table,a/column,i,k/flag,f a,flag,f a.f"), "ok")
        self.assertEqual(self.run_all(["rounds none a f", "stores"]), ["0", "main none two"])

    def test_values_and_indexes(self):
        for value in ("0", "7", "10", "999999999", "100000000"):
            self.shell.run(f"put main land {value} -")
        self.assertEqual(self.shell.run("show main land"), "0:- 7:- 10:- 999999999:- 100000000:-")
        for value in ("1000000000", "00", "01", "+1", "-1", "1,2", "1,", ",1", ",", "-", "x", "1x", "1.0", "1_0", "\t1", "0x1", "y"):
            self.assertRaises(InvalidRows, self.shell.run, f"put main land {value} -")
        for index in ("5", "00", "01", "+1", "-1", "1,2", "-", "x", "1.0", "1000000000", "0000000001", "1_0", "\t1"):
            self.assertRaises(UnknownRow, self.shell.run, f"drop main land {index}")
            self.assertRaises(UnknownRow, self.shell.run, f"turn main land {index} old")
        self.assertEqual(len(self.shell.run("show main land").split()), 5)

    def test_flags(self):
        for flags in ("y", "yy", "uu", "uy", "yuu", "-", "Yu", "y,u", "yx", "1u", "--", "y-", "TrueNone"):
            self.assertRaises(InvalidRows, self.shell.run, f"put main town 1,1 {flags}")
        for flags in ("y", "n", "u", "--", "none"):
            self.assertRaises(InvalidRows, self.shell.run, f"put main land 1 {flags}")
        for values in ("1", "1,2,3", "-", "1,a"):
            self.assertRaises(InvalidRows, self.shell.run, f"put main town {values} yu")
        self.assertEqual(self.run_all(["show main town", "show main land"]), ["none", "none"])

    def test_lines_that_are_none(self):
        for thing in objects():
            with self.subTest(repr(thing)[:60]):
                self.assertRaises(InvalidLine, self.shell.run, thing)
        for word, many in LINES.items():
            words = [word] + ["main", "town", "0", "old"][:many - 1]
            line = " ".join(words)
            for wrong in (line + " main", " ".join(words[:-1]), f" {line}", f"{line} ", f"{line}\n", f"\n{line}", line.upper(), f"{line}\t x"):
                self.assertRaises(InvalidLine, self.shell.run, wrong)
            if many > 1:
                self.assertRaises(InvalidLine, self.shell.run, line.replace(" ", "  ", 1))
                self.assertRaises(InvalidLine, self.shell.run, line.replace(" ", "\n", 1))
                self.assertRaises(InvalidLine, self.shell.run, line.replace(" ", "\t", 1))
                self.assertRaises(InvalidLine, self.shell.run, line.replace("main", "ma\nin", 1))
            self.assertRaises(InvalidLine, self.shell.run, words)
            self.assertRaises(InvalidLine, self.shell.run, tuple(words))
            self.assertRaises(InvalidLine, self.shell.run, line.encode())
        for line in ("", " ", "-", "help", "main", "run main", "put main town 1,2 y u", "opened a b c d", "stores main", "sound"):
            self.assertRaises(InvalidLine, self.shell.run, line)
        self.assertEqual(self.shell.run("stores"), "main")

    def test_errors_of_opening(self):
        for name in ("Main", "and", "flag", "yes", "toolongname", "a1", "-", "a.b", "m\tn"):
            self.assertRaises(InvalidName, self.shell.run, f"open {name} - - town.sea")
        self.assertRaises(DuplicateName, self.shell.run, "open main - - town.sea")
        for text, line in (
            ("-", 0), ("table", 0), ("table,town", 1), ("table,town/", 1), ("table,town//column,id,town", 1), ("column,id,town", 1),
            ("table,town/column,id,town/flag,old,", 2), ("table,town/column,id,town/table,town/column,id,town", 4),
            ("table,town/column,id,town/flag,and", 2), ("/", 0), (",", 0), ("table,town/column,id", 1),
            ("table,b/column,id,k/table,a/column,id,k", 4), ("tables", 0), ("table,town/column,id,town/flag,busy/flag,busy", 4),
        ):
            with self.assertRaises(ParseError) as caught:
                self.shell.run(f"open new {text} nonsense town.sea")
            self.assertEqual(caught.exception.line, line, text)
        for text, line in (
            ("town", 0), ("/", 0), (f"{BOOK}/", 2), ("shop,flag,old", 0), (f"{BOOK}/town,flag,open", 2), ("sea,yes", 0), ("town,yes,yes", 0),
            ("/".join(["town,yes"] * 7), 7), ("town,,yes", 0), ("-/town,yes", 0), ("--", 0), ("none", 0),
        ):
            with self.assertRaises(ParseError) as caught:
                self.shell.run(f"open new {SCHEMA} {text} town.sea")
            self.assertEqual(caught.exception.line, line, text)
        for text in ("town.sea", "town", "town.busy,", ",town.busy", "town.busy,town.busy", "town.busy.old", "busy", "town,busy", ".", ",",
                     "town.id", "shop.busy", "--", "none", "-,town.busy", "town.busy,-", "Town.busy", "/"):
            self.assertRaises(InvalidLacking, self.shell.run, f"open new {SCHEMA} {BOOK} {text}")
        for text in ("town.old", "town.old,town.busy", "shop.open", "shop.open,town.busy"):
            self.assertRaises(NotTold, self.shell.run, f"open new {SCHEMA} {BOOK} {text}")
        self.assertRaises(NotTold, self.shell.run, f"open new {SCHEMA} - town.busy")
        self.assertEqual(self.shell.run("stores"), "main")
        self.assertEqual(self.shell.run(f"open new {SCHEMA} {BOOK} -"), "ok")
        self.assertEqual(self.shell.run("stores"), "main new")

    def test_errors_of_the_others(self):
        for line in ("close", "put town 1,x yu", "drop sea 7", "turn sea 7 x", "undo", "show sea", "sound", "rounds sea x"):
            words = line.split()
            for name in ("mine", "Main", "-", "and", "main.town"):
                self.assertRaises(UnknownStore, self.shell.run, " ".join([words[0], name, *words[1:], "z"][:LINES[words[0]]]))
        self.shell.run("put main town 1,1 yu")
        for line in ("put main sea x x", "drop main sea x", "turn main sea x x", "show main sea", "rounds main sea x", "show main -"):
            self.assertRaises(UnknownTable, self.shell.run, line)
        for line in ("drop main town 1", "drop main town x", "turn main town 1 busy", "turn main land 0 x"):
            self.assertRaises(UnknownRow, self.shell.run, line)
        for line in ("turn main town 0 busy", "turn main town 0 x", "rounds main town old", "rounds main town x", "rounds main shop open"):
            self.assertRaises(UnknownFlag, self.shell.run, line)
        self.assertEqual(self.run_all(["show main town", "undo main", "show main town"]), ["1,1:yn", "ok", "none"])
        self.assertRaises(NothingToUndo, self.shell.run, "undo main")
        self.assertRaises(UnknownStore, self.shell.run, "undo new")
        self.assertRaises(NothingToUndo, self.shell.run, "undo main")
        self.assertEqual(self.shell.run("close main"), "ok")
        self.assertRaises(UnknownStore, self.shell.run, "close main")

    def test_by_name(self):
        self.assertEqual(self.shell.run(line="sound main"), "yes")

    def test_as_a_store_at_random(self):
        random = Random(39)
        opened = 0
        for _ in range(80):
            schema = some_schema(random)
            book, lacking = some_telling_book(random, schema, 2) if schema.flag_places else ([], [])
            shell = Shell()
            places = ",".join(f"{table}.{flag}" for table, flag in lacking) or "-"
            line = f"open x {word_of(format_schema(schema))} {word_of(format_book(book)) or '-'} {places}"
            if None in levels(schema, book, lacking).values():
                self.assertRaises(NotTold, shell.run, line)
                continue
            opened += 1
            self.assertEqual(shell.run(line), "ok")
            store = Store(schema, book, lacking)
            for _ in range(8):
                self.call_some(random, schema, lacking, store, shell)
                self.check(schema, store, shell)
            for (table, flag), number in levels(schema, book, lacking).items():
                self.assertEqual(shell.run(f"rounds x {table} {flag}"), str(number))
        self.assertGreater(opened, 20)

    def call_some(self, random, schema, lacking, store, shell):
        """Call a store and the shell alike."""
        table = random.choice(schema.tables)
        many = len(store.rows[table])
        kept = [flag for flag in schema.flags(table) if (table, flag) not in lacking]
        if many and kept and random.random() < 0.3:
            index, flag = random.randrange(many), random.choice(kept)
            found, answer = store.turn(table, index, flag), shell.run(f"turn x {table} {index} {flag}")
        elif many and random.random() < 0.3:
            index = random.randrange(many)
            found, answer = store.drop(table, index), shell.run(f"drop x {table} {index}")
        elif len(store) and random.random() < 0.2:
            self.assertEqual(shell.run("undo x"), "ok")
            store.undo()
            return
        else:
            values = [random.randrange(3) for _ in schema.columns(table)]
            letters = "".join(random.choice("yn") if flag in kept else "u" for flag in schema.flags(table))
            flags = tuple({"y": True, "n": False, "u": None}[letter] for letter in letters)
            answer = shell.run(f"put x {table} {','.join(map(str, values))} {letters or '-'}")
            self.assertEqual(answer, str(store.put(table, tuple(values), flags)))
            return
        self.assertEqual(answer, " ".join(f"{name}.{at}.{flag}" for name, at, flag in found) or "none")

    def check(self, schema, store, shell):
        self.assertEqual(shell.run("sound x"), "yes" if store.sound else "no")
        for table in schema.tables:
            shown = [
                ",".join(map(str, values)) + ":" + ("".join({True: "y", False: "n", None: "u"}[flag] for flag in flags) or "-")
                for values, flags in store.told[table]
            ]
            self.assertEqual(shell.run(f"show x {table}"), " ".join(shown) or "none")


if __name__ == "__main__":
    unittest.main()
