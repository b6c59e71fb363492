"""The examples of the document, as they stand there, and those of README.md."""

import doctest
import unittest
from pathlib import Path

from toldbyrest.errors import ToldError

EXAMPLES = {
    "15": r"""
>>> from toldbyrest.schemas import Schema
>>> schema = Schema({'town': ((('id', 'town'),), ('old', 'busy')), 'shop': ((('at', 'town'),), ('open',))})
>>> [schema.tables, schema.flag_places, schema.columns('shop'), schema.places('town')]
[['shop', 'town'], [('shop', 'open'), ('town', 'busy'), ('town', 'old')], (('at', 'town'),), [('shop', 'at'), ('town', 'id')]]
""",
    "16": r"""
>>> from toldbyrest.rows import beside, rows_at, turned
>>> from toldbyrest.schemas import Schema
>>> schema = Schema({'town': ((('id', 'town'),), ('old',))})
>>> rows = {'town': [((1,), (True,)), ((1,), (False,))]}
>>> [rows_at(schema, rows, 'town', 'id', 1), beside(schema, rows, {'town': [((0,), (True,))]}), turned(schema, rows, 'town', 0, 'old')]
[[0, 1], {'town': [((1,), (True,)), ((1,), (False,)), ((2,), (True,))]}, {'town': [((1,), (False,)), ((1,), (False,))]}]
""",
    "17": r"""
>>> from toldbyrest.conditions import depth, flags_in, has_parts, meets
>>> from toldbyrest.schemas import Schema
>>> schema = Schema({'shop': ((('at', 'town'),), ('open',)), 'town': ((('id', 'town'),), ('old',))})
>>> rows = {'shop': [((1,), (True,)), ((2,), (False,))], 'town': [((1,), (True,)), ((2,), (False,))]}
>>> condition = ('and', ('not', ('flag', 'old')), ('has', 'id', 'shop', 'at', ('flag', 'open')))
>>> [depth(condition), has_parts('town', condition), flags_in('town', condition)]
[1, [('town', 'id', 'shop', 'at', ('flag', 'open'))], [('shop', 'open'), ('town', 'old')]]
>>> [meets(schema, rows, 'town', index, condition[2]) for index in range(2)]
[True, False]
""",
    "18": r"""
>>> from toldbyrest.schemas import Schema
>>> from toldbyrest.texts import format_book, parse_book
>>> schema = Schema({'shop': ((('at', 'town'),), ('open',)), 'town': ((('id', 'town'),), ('old',))})
>>> book = parse_book(schema, 'shop has at town id yes\ntown not flag old')
>>> book
[('shop', ('has', 'at', 'town', 'id', ('yes',))), ('town', ('not', ('flag', 'old')))]
>>> parse_book(schema, 'town yes\nshop flag old')
raises ParseError(1)
""",
    "19": r"""
>>> from toldbyrest.books import broken, keeps
>>> from toldbyrest.schemas import Schema
>>> schema = Schema({'shop': ((('at', 'town'),), ('open',)), 'town': ((('id', 'town'),), ('old',))})
>>> book = [('shop', ('has', 'at', 'town', 'id', ('yes',))), ('town', ('not', ('flag', 'old')))]
>>> rows = {'shop': [((1,), (True,)), ((2,), (True,))], 'town': [((1,), (True,))]}
>>> [broken(schema, book, rows), keeps(schema, book, {'shop': [], 'town': []})]
[[(0, 1), (1, 0)], True]
""",
    "20": r"""
>>> from toldbyrest.lacking import are_bare, bare, is_filling
>>> from toldbyrest.schemas import Schema
>>> schema = Schema({'town': ((('id', 'town'),), ('old', 'busy'))})
>>> rows, lacking = {'town': [((1,), (True, False))]}, [('town', 'busy')]
>>> [bare(schema, rows, lacking), are_bare(schema, lacking, rows)]
[{'town': [((1,), (True, None))]}, False]
>>> [is_filling(schema, [('town', ('flag', 'busy'))], lacking, bare(schema, rows, lacking), {'town': [((1,), (True, busy))]}) for busy in (False, True)]
[False, True]
""",
    "21": r"""
>>> from toldbyrest.fillings import fillings, how_many, sure
>>> from toldbyrest.schemas import Schema
>>> schema = Schema({'town': ((('id', 'town'), ('of', 'town')), ('old',))})
>>> book = [('town', ('or', ('not', ('flag', 'old')), ('has', 'of', 'town', 'id', ('flag', 'old'))))]
>>> rows = {'town': [((1, 2), (None,)), ((2, 1), (None,)), ((3, 4), (None,))]}
>>> [how_many(schema, book, [('town', 'old')], rows), sure(schema, book, [('town', 'old')], rows)]
[2, {'town': [((1, 2), (None,)), ((2, 1), (None,)), ((3, 4), (False,))]}]
""",
}


def outcome(call):
    """Print what error a call raises, as the document writes it down."""
    try:
        call()
    except ToldError as error:
        told = getattr(error, "line", "")
        print(f"raises {type(error).__name__}({told})")


class ExamplesTest(unittest.TestCase):
    def run_examples(self, text, name):
        test = doctest.DocTestParser().get_doctest(text, {"outcome": outcome}, name, name, 0)
        self.assertGreater(len(test.examples), 0)
        for example in test.examples:
            if example.want.startswith("raises "):
                example.source = f"outcome(lambda: {example.source.strip()})\n"
        told = []
        results = doctest.DocTestRunner().run(test, out=told.append)
        self.assertEqual(results.failed, 0, "".join(told))

    def test_the_document(self):
        for name, text in EXAMPLES.items():
            with self.subTest(name):
                self.run_examples(text, name)

    def test_the_readme(self):
        readme = Path(__file__).resolve().parent.parent / "README.md"
        self.run_examples(readme.read_text(encoding="utf-8").replace("```", ""), "README.md")


if __name__ == "__main__":
    unittest.main()
