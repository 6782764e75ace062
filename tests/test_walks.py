"""[0.7]: the order of terms, whatever way it is found."""

import unittest

from shownpart.base import walks
from tests import samples
from tests.checks import Case


class TestOrder(Case):
    def test_both_ways_to_order(self):
        rows = samples.generator_of(11)
        for _ in range(400):
            terms = [samples.random_term(rows, rows.randint(0, 4)) for _ in range(rows.randint(0, 6))]
            table, roots = walks.rows_and_roots(terms)
            told = walks.terms_from(table)
            self.same([told[number] for number in roots], terms)
            order = walks.order_of(table)
            self.same([order, [told[number] for number in order]], [walks.order_by_ranks(table), sorted(told)])
            self.assertEqual(len(set(told)), len(told))

    def test_terms_that_are_too_long_for_texts(self):
        table, _ = walks.rows_and_roots([samples.chain(600), samples.chain(600, ("aa",)), samples.full_tree(5)])
        told = walks.terms_from(table)
        self.assertGreater(sum(walks.sizes_of(table)), walks.MANY_PARTS)
        texts = [walks.written(told[number]) for number in walks.order_of(table)]
        self.same(texts, sorted(texts))
        self.assertEqual(len(texts), 1206)


if __name__ == "__main__":
    unittest.main()
