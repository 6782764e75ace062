"""The examples of the document, as they stand there."""

import doctest
import unittest

from shownpart.base import facts, terms
from tests import samples

TERMS = '''
>>> deep = read_term("f(g(a),b)")
>>> [deep, levels(deep), size_of(deep), list(subterms(deep))]
[('f', ('g', ('a',)), ('b',)), 3, 4, [('a',), ('b',), ('f', ('g', ('a',)), ('b',)), ('g', ('a',))]]
>>> [text_of(replaced(deep, ("g", A), A)), text_of(renamed(deep, a="b", b="a")), places_of(deep)]
['f(a,b)', 'f(g(b),a)', {'a': 0, 'b': 0, 'f': 2, 'g': 1}]
'''

FACTS = '''
>>> one, other = read_fact("a=c => b=d"), make_fact((D, B), (("f", A), E), (D, B))
>>> [one, fact_text(other)]
[(((('a',), ('c',)),), (('b',), ('d',))), 'b=d & e=f(a) => b=d']
>>> [fact_text(cut(one, read_fact("b=d & e=f(a) => never"))), fact_text(changed(one, C, ("g", A))), changed(one, D, B)]
['a=c & e=f(a) => never', 'a=g(a) => b=d', None]
'''


class TestExamples(unittest.TestCase):
    def check(self, text, module):
        names = {name: getattr(samples, name) for name in "ABCDE"}
        names.update(vars(module))
        examples = doctest.DocTestParser().get_doctest(text, names, module.__name__, None, 0)
        told = []
        result = doctest.DocTestRunner(verbose=False).run(examples, out=told.append)
        self.assertEqual(result.failed, 0, "".join(told))
        self.assertEqual(result.attempted, len(examples.examples))

    def test_terms(self):
        self.check(TERMS, terms)

    def test_facts(self):
        self.check(FACTS, facts)


if __name__ == "__main__":
    unittest.main()
