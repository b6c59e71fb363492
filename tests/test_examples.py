"""The examples of the document, as they stand there, and those of README.md."""

import doctest
import unittest
from pathlib import Path

EXAMPLES = {
    "15": r"""
>>> from toldbyrest.schemas import Schema
>>> schema = Schema({'town': ((('id', 'town'),), ('old', 'busy')), 'shop': ((('at', 'town'),), ('open',))})
>>> [schema.tables, schema.flag_places, schema.columns('shop'), schema.places('town')]
[['shop', 'town'], [('shop', 'open'), ('town', 'busy'), ('town', 'old')], (('at', 'town'),), [('shop', 'at'), ('town', 'id')]]
""",
    "16": r"""
>>> from toldbyrest.rows import beside, rows_at, turned
>>> from toldbyrest.schemas import Schema
>>> schema = Schema({'town': ((('id', 'town'),), ('old',))})
>>> rows = {'town': [((1,), (True,)), ((1,), (False,))]}
>>> [rows_at(schema, rows, 'town', 'id', 1), beside(schema, rows, {'town': [((0,), (True,))]}), turned(schema, rows, 'town', 0, 'old')]
[[0, 1], {'town': [((1,), (True,)), ((1,), (False,)), ((2,), (True,))]}, {'town': [((1,), (False,)), ((1,), (False,))]}]
""",
    "17": r"""
>>> from toldbyrest.conditions import depth, flags_in, has_parts, meets
>>> from toldbyrest.schemas import Schema
>>> schema = Schema({'shop': ((('at', 'town'),), ('open',)), 'town': ((('id', 'town'),), ('old',))})
>>> rows = {'shop': [((1,), (True,)), ((2,), (False,))], 'town': [((1,), (True,)), ((2,), (False,))]}
>>> condition = ('and', ('not', ('flag', 'old')), ('has', 'id', 'shop', 'at', ('flag', 'open')))
>>> [depth(condition), has_parts('town', condition), flags_in('town', condition)]
[1, [('town', 'id', 'shop', 'at', ('flag', 'open'))], [('shop', 'open'), ('town', 'old')]]
>>> [meets(schema, rows, 'town', index, condition[2]) for index in range(2)]
[True, False]
""",
}


class ExamplesTest(unittest.TestCase):
    def run_examples(self, text, name):
        test = doctest.DocTestParser().get_doctest(text, {}, name, name, 0)
        self.assertGreater(len(test.examples), 0)
        told = []
        results = doctest.DocTestRunner().run(test, out=told.append)
        self.assertEqual(results.failed, 0, "".join(told))

    def test_the_document(self):
        for name, text in EXAMPLES.items():
            with self.subTest(name):
                self.run_examples(text, name)

    def test_the_readme(self):
        readme = Path(__file__).resolve().parent.parent / "README.md"
        self.run_examples(readme.read_text(encoding="utf-8").replace("```", ""), "README.md")


if __name__ == "__main__":
    unittest.main()
