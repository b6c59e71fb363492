"""The examples of the document, as they stand there, and those of README.md."""

import doctest
import unittest
from pathlib import Path

from toldbyrest.errors import ToldError

EXAMPLES = {
    "15": r"""
>>> from toldbyrest.schemas import Schema
>>> schema = Schema({'town': ((('id', 'town'),), ('old', 'busy')), 'shop': ((('at', 'town'),), ('open',))})
>>> [schema.tables, schema.flag_places, schema.columns('shop'), schema.places('town')]
[['shop', 'town'], [('shop', 'open'), ('town', 'busy'), ('town', 'old')], (('at', 'town'),), [('shop', 'at'), ('town', 'id')]]
""",
    "16": r"""
>>> from toldbyrest.rows import beside, rows_at, turned
>>> from toldbyrest.schemas import Schema
>>> schema = Schema({'town': ((('id', 'town'),), ('old',))})
>>> rows = {'town': [((1,), (True,)), ((1,), (False,))]}
>>> [rows_at(schema, rows, 'town', 'id', 1), beside(schema, rows, {'town': [((0,), (True,))]}), turned(schema, rows, 'town', 0, 'old')]
[[0, 1], {'town': [((1,), (True,)), ((1,), (False,)), ((2,), (True,))]}, {'town': [((1,), (False,)), ((1,), (False,))]}]
""",
    "17": r"""
>>> from toldbyrest.conditions import depth, flags_in, has_parts, meets
>>> from toldbyrest.schemas import Schema
>>> schema = Schema({'shop': ((('at', 'town'),), ('open',)), 'town': ((('id', 'town'),), ('old',))})
>>> rows = {'shop': [((1,), (True,)), ((2,), (False,))], 'town': [((1,), (True,)), ((2,), (False,))]}
>>> condition = ('and', ('not', ('flag', 'old')), ('has', 'id', 'shop', 'at', ('flag', 'open')))
>>> [depth(condition), has_parts('town', condition), flags_in('town', condition)]
[1, [('town', 'id', 'shop', 'at', ('flag', 'open'))], [('shop', 'open'), ('town', 'old')]]
>>> [meets(schema, rows, 'town', index, condition[2]) for index in range(2)]
[True, False]
""",
    "18": r"""
>>> from toldbyrest.schemas import Schema
>>> from toldbyrest.texts import format_book, parse_book
>>> schema = Schema({'shop': ((('at', 'town'),), ('open',)), 'town': ((('id', 'town'),), ('old',))})
>>> book = parse_book(schema, 'shop has at town id yes\ntown not flag old')
>>> book
[('shop', ('has', 'at', 'town', 'id', ('yes',))), ('town', ('not', ('flag', 'old')))]
>>> parse_book(schema, 'town yes\nshop flag old')
raises ParseError(1)
""",
    "19": r"""
>>> from toldbyrest.books import broken, keeps
>>> from toldbyrest.schemas import Schema
>>> schema = Schema({'shop': ((('at', 'town'),), ('open',)), 'town': ((('id', 'town'),), ('old',))})
>>> book = [('shop', ('has', 'at', 'town', 'id', ('yes',))), ('town', ('not', ('flag', 'old')))]
>>> rows = {'shop': [((1,), (True,)), ((2,), (True,))], 'town': [((1,), (True,))]}
>>> [broken(schema, book, rows), keeps(schema, book, {'shop': [], 'town': []})]
[[(0, 1), (1, 0)], True]
""",
    "20": r"""
>>> from toldbyrest.lacking import are_bare, bare, is_filling
>>> from toldbyrest.schemas import Schema
>>> schema = Schema({'town': ((('id', 'town'),), ('old', 'busy'))})
>>> rows, lacking = {'town': [((1,), (True, False))]}, [('town', 'busy')]
>>> [bare(schema, rows, lacking), are_bare(schema, lacking, rows)]
[{'town': [((1,), (True, None))]}, False]
>>> [is_filling(schema, [('town', ('flag', 'busy'))], lacking, bare(schema, rows, lacking), {'town': [((1,), (True, busy))]}) for busy in (False, True)]
[False, True]
""",
    "21": r"""
>>> from toldbyrest.fillings import fillings, how_many, sure
>>> from toldbyrest.schemas import Schema
>>> schema = Schema({'town': ((('id', 'town'), ('of', 'town')), ('old',))})
>>> book = [('town', ('or', ('not', ('flag', 'old')), ('has', 'of', 'town', 'id', ('flag', 'old'))))]
>>> rows = {'town': [((1, 2), (None,)), ((2, 1), (None,)), ((3, 4), (None,))]}
>>> [how_many(schema, book, [('town', 'old')], rows), sure(schema, book, [('town', 'old')], rows)]
[2, {'town': [((1, 2), (None,)), ((2, 1), (None,)), ((3, 4), (False,))]}]
""",
    "22": r"""
>>> from toldbyrest.looks import looks, looks_into, looks_through, own_looks
>>> from toldbyrest.schemas import Schema
>>> schema = Schema({'shop': ((('at', 'town'),), ('open',)), 'town': ((('id', 'town'),), ('old',))})
>>> inner = ('has', 'id', 'shop', 'at', ('flag', 'open'))
>>> book = [('town', ('not', ('flag', 'old'))), ('shop', ('has', 'at', 'town', 'id', inner)), ('town', inner)]
>>> [look[:4] for look in looks(schema, book)]
[('shop', 'at', 'town', 'id'), ('town', 'id', 'shop', 'at')]
>>> [own_looks(schema, book, 'town'), looks_into(schema, book, 'town', 'id'), looks_through(schema, book, 'town')]
[[1], [0], [0, 1]]
""",
    "23": r"""
>>> from toldbyrest.kinds import fits, gives, row_kinds, view_on
>>> from toldbyrest.schemas import Schema
>>> schema = Schema({'shop': ((('at', 'town'),), ('open',)), 'town': ((('id', 'town'),), ('busy',))})
>>> seen = ('has', 'id', 'shop', 'at', ('flag', 'open'))
>>> book = [('town', ('or', ('and', ('flag', 'busy'), seen), ('and', ('not', ('flag', 'busy')), ('not', seen))))]
>>> [row_kinds(schema, book, 'town'), row_kinds(schema, book, 'shop')]
[[('town', (False,), (False,)), ('town', (True,), (True,))], [('shop', (False,), ()), ('shop', (True,), ())]]
>>> [gives(schema, book, ('shop', (worth,), ()), 0) for worth in (False, True)]
[False, True]
>>> [fits(schema, book, ('shop', (True,), ()), 'at', ('town', (answer,))) for answer in (False, True)]
[False, True]
>>> view_on(schema, book, {'shop': [((1,), (True,))], 'town': [((1,), (False,))]}, 'town', 0)
('town', (False,), (True,))
""",
    "24": r"""
>>> from toldbyrest.left import can_have_rows, kinds_left, rounds_of_kinds
>>> from toldbyrest.schemas import Schema
>>> schema = Schema({'town': ((('id', 'town'), ('of', 'town')), ('old',))})
>>> above = ('has', 'of', 'town', 'id', ('not', ('flag', 'old')))
>>> book = [('town', ('and', ('flag', 'old'), above))]
>>> [rounds_of_kinds(schema, book), can_have_rows(schema, book, 'town'), kinds_left(schema, book[:0], 'town')]
[{('town', (True,), (True,)): 1}, False, [('town', (False,), ()), ('town', (True,), ())]]
""",
    "25": r"""
>>> from toldbyrest.candidates import candidates, last_round, worked_out
>>> from toldbyrest.schemas import Schema
>>> schema = Schema({'shop': ((('at', 'town'),), ('open',)), 'town': ((('id', 'town'),), ('busy',))})
>>> seen = ('has', 'id', 'shop', 'at', ('flag', 'open'))
>>> book = [('town', ('or', ('and', ('flag', 'busy'), seen), ('and', ('not', ('flag', 'busy')), ('not', seen))))]
>>> rows = {'shop': [((1,), (True,))], 'town': [((1,), (None,)), ((2,), (None,))]}
>>> [candidates(schema, book, [('town', 'busy')], rows, number)['town'][1] for number in range(2)]
[[('town', (False,), (False,)), ('town', (True,), (True,))], [('town', (False,), (False,))]]
>>> [worked_out(schema, book, [('town', 'busy')], rows, 1)['town'], last_round(schema, book, [('town', 'busy')], rows)]
[[((1,), (True,)), ((2,), (False,))], 1]
""",
    "26": r"""
>>> from toldbyrest.reasons import is_reason, reason
>>> from toldbyrest.schemas import Schema
>>> schema = Schema({'shop': ((('at', 'town'),), ('open',)), 'town': ((('id', 'town'),), ('busy',))})
>>> seen = ('has', 'id', 'shop', 'at', ('flag', 'open'))
>>> book = [('town', ('or', ('and', ('flag', 'busy'), seen), ('and', ('not', ('flag', 'busy')), ('not', seen))))]
>>> rows, busy = {'shop': [], 'town': [((1,), (None,))]}, ('town', (True,), (True,))
>>> [is_reason(schema, book, [('town', 'busy')], rows, {('town', 0, busy): number}) for number in (0, 1, 7)]
[False, True, True]
>>> reason(schema, book, [('town', 'busy')], rows, 'town', 0, ('town', (False,), (False,))) is None
True
""",
    "27": r"""
>>> from toldbyrest.pairs import pairs, pairs_left, rounds_of_pairs
>>> from toldbyrest.schemas import Schema
>>> schema = Schema({'shop': ((('at', 'town'),), ('open',)), 'town': ((('id', 'town'),), ('busy',))})
>>> seen = ('has', 'id', 'shop', 'at', ('flag', 'open'))
>>> book = [('town', ('or', ('and', ('flag', 'busy'), seen), ('and', ('not', ('flag', 'busy')), ('not', seen))))]
>>> quiet, busy = ('town', (False,), (False,)), ('town', (True,), (True,))
>>> rounds_of_pairs(schema, book, [('town', 'busy')]) == {(quiet, busy): 1, (busy, quiet): 1}
True
>>> [len(pairs(schema, book, [('town', 'busy')], 'town')), pairs_left(schema, book, [('town', 'busy')], 'town') == [(quiet, quiet), (busy, busy)]]
[4, True]
""",
    "28": r"""
>>> from toldbyrest.schemas import Schema
>>> from toldbyrest.texts import parse_book
>>> from toldbyrest.told import is_told, levels
>>> schema = Schema({'land': ((('id', 'land'),), ('rich',)), 'shop': ((('at', 'town'),), ('open',)), 'town': ((('id', 'town'), ('in', 'land')), ('busy',))})
>>> rules = ['town or and flag busy has id shop at flag open and not flag busy not has id shop at flag open']
>>> rules = rules + ['land or and flag rich has id town in flag busy and not flag rich not has id town in flag busy']
>>> book = parse_book(schema, '\n'.join(rules))
>>> levels(schema, book, [('town', 'busy'), ('land', 'rich')])
{('land', 'rich'): 2, ('town', 'busy'): 1}
>>> [is_told(schema, book, [('shop', 'open')], 'shop', 'open'), levels(schema, book, [('land', 'rich')])]
[False, {('land', 'rich'): 1}]
""",
    "29": r"""
>>> from toldbyrest.papers import is_paper, paper
>>> from toldbyrest.schemas import Schema
>>> schema = Schema({'shop': ((('at', 'town'),), ('open',)), 'town': ((('id', 'town'),), ('busy',))})
>>> seen = ('has', 'id', 'shop', 'at', ('flag', 'open'))
>>> book = [('town', ('or', ('and', ('flag', 'busy'), seen), ('and', ('not', ('flag', 'busy')), ('not', seen))))]
>>> quiet, busy = ('town', (False,), (False,)), ('town', (True,), (True,))
>>> [is_paper(schema, book, [('town', 'busy')], {(quiet, other): 1}) for other in (quiet, busy)]
[False, True]
>>> paper(schema, book, [('town', 'busy')], (busy, busy)) is None
True
""",
    "30": r"""
>>> from toldbyrest.apart import data_apart, data_behind, data_near
>>> from toldbyrest.schemas import Schema
>>> schema = Schema({'town': ((('id', 'town'),), ('old', 'busy'))})
>>> data_apart(schema, [('town', ('or', ('flag', 'old'), ('flag', 'busy')))], [('town', 'busy')], 'town', 'busy') is None
False
>>> [data_one(schema, [('town', ('and', ('flag', 'old'), ('flag', 'busy')))], [('town', 'busy')], 'town', 'busy', 0) is None for data_one in (data_behind, data_near)]
[True, True]
""",
    "31": r"""
>>> from toldbyrest.schemas import Schema
>>> from toldbyrest.tellers import do_tell, greatest_mutes, least_tellers
>>> schema = Schema({'town': ((('id', 'town'),), ('old', 'busy'))})
>>> same = ('or', ('and', ('flag', 'old'), ('flag', 'busy')), ('and', ('not', ('flag', 'old')), ('not', ('flag', 'busy'))))
>>> [least_tellers(schema, [('town', same)]), greatest_mutes(schema, [('town', same)]), do_tell(schema, [], [('town', 'old')])]
[[[('town', 'busy')], [('town', 'old')]], [[]], False]
""",
    "32": r"""
>>> from toldbyrest.schemas import Schema
>>> from toldbyrest.single import greatest_without, least_for
>>> schema = Schema({'shop': ((('at', 'town'),), ('open',)), 'town': ((('id', 'town'),), ('busy',))})
>>> seen = ('has', 'id', 'shop', 'at', ('flag', 'open'))
>>> book = [('town', ('or', ('and', ('flag', 'busy'), seen), ('and', ('not', ('flag', 'busy')), ('not', seen))))]
>>> [least_for(schema, book, 'town', 'busy'), least_for(schema, book, 'shop', 'open'), greatest_without(schema, book, 'shop', 'open')]
[[[('shop', 'open')]], [], [[('town', 'busy')]]]
""",
    "33": r"""
>>> from toldbyrest.schemas import Schema
>>> from toldbyrest.telling import is_telling, telling
>>> schema = Schema({'shop': ((('at', 'town'),), ('open',)), 'town': ((('id', 'town'),), ('busy',))})
>>> seen = ('has', 'id', 'shop', 'at', ('flag', 'open'))
>>> book = [('town', ('or', ('and', ('flag', 'busy'), seen), ('and', ('not', ('flag', 'busy')), ('not', seen))))]
>>> [is_telling(schema, book, [('town', 'busy')], 'town', 'busy', condition) for condition in (seen, ('flag', 'busy'), ('not', seen))]
[True, False, False]
>>> telling(schema, book, [('shop', 'open')], 'shop', 'open') is None
True
""",
    "34": r"""
>>> from toldbyrest.follows import are_alike, follows, needless
>>> from toldbyrest.schemas import Schema
>>> schema = Schema({'town': ((('id', 'town'), ('of', 'town')), ('old',))})
>>> above = ('has', 'of', 'town', 'id', ('flag', 'old'))
>>> book = [('town', above), ('town', ('or', above, ('flag', 'old'))), ('town', ('flag', 'old'))]
>>> [needless(schema, book), follows(schema, book[:1], 'town', ('has', 'of', 'town', 'id', ('has', 'of', 'town', 'id', ('yes',))))]
[[1], True]
>>> are_alike(schema, book, book[::2])
True
""",
    "35": r"""
>>> from toldbyrest.needed import greatest_spoilers, least_rules
>>> from toldbyrest.schemas import Schema
>>> schema = Schema({'town': ((('id', 'town'),), ('old', 'busy'))})
>>> book = [('town', ('or', ('flag', 'old'), ('flag', 'busy'))), ('town', ('not', ('and', ('flag', 'old'), ('flag', 'busy')))), ('town', ('flag', 'busy'))]
>>> [least_rules(schema, book, [('town', 'busy')], 'town', 'busy'), greatest_spoilers(schema, book, [('town', 'busy')], 'town', 'busy')]
[[[0, 1], [2]], [[0], [1]]]
""",
    "36": r"""
>>> from toldbyrest.reach import cut_out, near, steps_between
>>> from toldbyrest.schemas import Schema
>>> schema = Schema({'shop': ((('at', 'town'),), ()), 'town': ((('id', 'town'), ('of', 'town')), ('old',))})
>>> rows = {'shop': [((1,), ()), ((3,), ())], 'town': [((2, 3), (None,)), ((1, 2), (True,))]}
>>> [near(schema, rows, 'shop', 0, 1), near(schema, rows, 'shop', 0, 2), steps_between(schema, rows, 'shop', 0, 'shop', 1)]
[{'shop': [0], 'town': [1]}, {'shop': [0], 'town': [0, 1]}, 3]
>>> cut_out(schema, rows, 'town', 1, 1)
({'shop': [((1,), ())], 'town': [((2, 3), (None,)), ((1, 2), (True,))]}, 1)
""",
    "37": r"""
>>> from toldbyrest.repairs import fewest_turns
>>> from toldbyrest.schemas import Schema
>>> schema = Schema({'shop': ((('at', 'town'),), ('open',)), 'town': ((('id', 'town'),), ('busy',))})
>>> book = [('town', ('and', ('flag', 'busy'), ('has', 'id', 'shop', 'at', ('flag', 'open'))))]
>>> rows = {'shop': [((1,), (False,)), ((1,), (False,))], 'town': [((1,), (None,))]}
>>> [fewest_turns(schema, book, [('town', 'busy')], rows), fewest_turns(schema, book, [('town', 'busy')], {'shop': [], 'town': rows['town']})]
[[('shop', 0, 'open')], None]
""",
    "38": r"""
>>> from toldbyrest.schemas import Schema
>>> from toldbyrest.stores import Store
>>> schema = Schema({'shop': ((('at', 'town'),), ('open',)), 'town': ((('id', 'town'),), ('busy',))})
>>> seen = ('has', 'id', 'shop', 'at', ('flag', 'open'))
>>> store = Store(schema, [('town', ('or', ('and', ('flag', 'busy'), seen), ('and', ('not', ('flag', 'busy')), ('not', seen))))], [('town', 'busy')])
>>> [store.put('town', (1,), (None,)), store.put('shop', (1,), (False,)), store.told['town'], store.turn('shop', 0, 'open'), store.told['town'], store.sound, len(store)]
[0, 0, [((1,), (False,))], [('town', 0, 'busy')], [((1,), (True,))], True, 3]
""",
    "39": r"""
>>> from toldbyrest.shell import Shell
>>> shell = Shell()
>>> shell.run('open main table,town/column,id,town/flag,old/flag,busy town,not,flag,busy town.busy')
'ok'
>>> [shell.run(line) for line in ['put main town 7 yu', 'show main town', 'rounds main town busy', 'turn main town 0 old', 'sound main', 'stores']]
['0', '7:yn', '0', 'none', 'yes', 'main']
""",
}


def outcome(call):
    """Print what error a call raises, as the document writes it down."""
    try:
        call()
    except ToldError as error:
        told = getattr(error, "line", "")
        print(f"raises {type(error).__name__}({told})")


class ExamplesTest(unittest.TestCase):
    def run_examples(self, text, name):
        test = doctest.DocTestParser().get_doctest(text, {"outcome": outcome}, name, name, 0)
        self.assertGreater(len(test.examples), 0)
        for example in test.examples:
            if example.want.startswith("raises "):
                example.source = f"outcome(lambda: {example.source.strip()})\n"
        told = []
        results = doctest.DocTestRunner().run(test, out=told.append)
        self.assertEqual(results.failed, 0, "".join(told))

    def test_the_document(self):
        for name, text in EXAMPLES.items():
            with self.subTest(name):
                self.run_examples(text, name)

    def test_the_readme(self):
        readme = Path(__file__).resolve().parent.parent / "README.md"
        self.run_examples(readme.read_text(encoding="utf-8").replace("```", ""), "README.md")


if __name__ == "__main__":
    unittest.main()
