"""[0.7] and [1.1]: terms."""

import inspect
import unittest

from shownpart.base import terms
from shownpart.base.terms import (
    is_cell, is_name, is_term, levels, make_cells, make_term, places_of, read_term, renamed, renamed_by, replaced,
    size_of, stands_in, subterms, text_of,
)
from shownpart.errors import InvalidName, InvalidOperation, InvalidTerm, ParseError
from tests import samples
from tests.checks import Case
from tests.samples import A, B, C, WRONG

INTERFACE = {
    "is_name": "(value)", "is_term": "(value)", "is_cell": "(value)", "make_term": "(name, *terms)",
    "make_cells": "(*names)", "places_of": "(term)", "levels": "(term)", "size_of": "(term)", "subterms": "(term)",
    "stands_in": "(term, other)", "replaced": "(term, old, new)", "renamed": "(term, **names)",
    "renamed_by": "(term, names)", "text_of": "(term)", "read_term": "(text)",
}
DEEP = 20000


def f(*below):
    return ("f", *below)


class TestInterface(Case):
    def test_names_and_parameters(self):
        for name, parameters in INTERFACE.items():
            action = getattr(terms, name)
            self.assertEqual(str(inspect.signature(action)), parameters)
            self.assertEqual(action.__module__, "shownpart.base.terms")

    def test_constant(self):
        self.same(terms.MAX_PLACES, 3)


class TestWhatIsOne(Case):
    def test_names(self):
        for value in ("a", "z", "ab", "never", "abcdefgh", "zzzzzzzz"):
            self.same(is_name(value), True)
        for value in ("", "abcdefghi", "A", "aB", "Ab", "a1", "1", "a_", "_", "a ", " a", "a\n", "a-b", "\u00e4",
                      "\u03b1", "a\u0131", "a\u0301", "\u00aa", "\uff41"):
            self.same(is_name(value), False)

    def test_terms(self):
        for value in (A, f(), f(A), f(A, B), f(A, B, C), ("abcdefgh",), f(f(f(A))), f(("g", A), B),
                      samples.full_tree(8), samples.chain(39), ("f", samples.chain(198), samples.chain(199))):
            self.same(is_term(value), True)
        self.assertEqual(size_of(("f", samples.chain(198), samples.chain(199))), 400)
        for value in (f(A, A, A, A), f(("f",)), f(f(A, A)), f(A, f(A)), ("g", f(A), f(A, A)), ("g", f(A), ("f",)),
                      ("h", ("g", A, A), A, f(("g", A))), ("abcdefghi", A), "a", f("a"), [A], ["f", A], f([A[0]])):
            self.same(is_term(value), False)

    def test_places_unlike_at_the_bottom(self):
        self.same(is_term(samples.chain(39, ("s",))), False)
        self.same(is_term(samples.chain(39, ("t", A))), True)
        self.same(is_term(samples.chain(39, ("t", ("s", A, A)))), False)

    def test_cells(self):
        for value in (A, ("abcdefgh",)):
            self.same(is_cell(value), True)
        for value in (f(A), ("A",), ("abcdefghi",), "a", (), ["a"], f(A, ("f",))):
            self.same(is_cell(value), False)

    def test_no_wrong_value_is_one(self):
        for value in WRONG:
            self.same([is_name(value), is_term(value), is_cell(value)], [False, False, False])

    def test_values_with_one_part_replaced(self):
        for term in (f(("g", A, B), C), samples.chain(39), samples.full_tree(3)):
            for new in [*WRONG, "a", "f", "g", "s", A, f(A), ("f",)]:
                for value in samples.parts_replaced(term, new):
                    self.same(is_term(value), samples.plain_term(value))


class TestMakeTerm(Case):
    def test_results(self):
        self.same(make_term("a"), A)
        self.same(make_term("f", A, B, ("g", C)), ("f", A, B, ("g", C)))
        self.same(make_cells("a", "b", "a"), (A, B, A))
        self.same(make_cells(), ())

    def test_wrong_names(self):
        for value in WRONG:
            self.raises(InvalidName, make_term, value)
            self.raises(InvalidName, make_term, value, value)
            self.raises(InvalidName, make_cells, value)
            self.raises(InvalidName, make_cells, "a", value, "b", 1)

    def test_wrong_terms(self):
        for value in WRONG:
            self.raises(InvalidTerm, make_term, "f", value)
            self.raises(InvalidTerm, make_term, "f", A, value, 1)
        self.raises(InvalidTerm, make_term, "f", A, A, A, A)
        self.raises(InvalidTerm, make_term, "f", ("f",))
        self.raises(InvalidTerm, make_term, "f", A, ("g", f(A)))
        self.raises(InvalidTerm, make_term, "h", f(A), f(A, A))


class TestMeasures(Case):
    def test_places(self):
        self.same(places_of(A), {"a": 0})
        self.same(places_of(("z", ("f", B, ("aa",)), A, ("c", A))), {"a": 0, "aa": 0, "b": 0, "c": 1, "f": 2, "z": 3})

    def test_places_are_a_new_dict(self):
        term = f(A)
        places_of(term)["a"] = 5
        self.same(places_of(term), {"a": 0, "f": 1})

    def test_levels_and_size(self):
        for term, many, size in ((A, 1, 1), (f(A), 2, 2), (f(A, A, A), 2, 4), (f(A, ("g", ("h", B)), C), 4, 6),
                                 (samples.chain(39), 40, 40), (samples.full_tree(8), 8, 255)):
            self.same([levels(term), size_of(term)], [many, size])

    def test_subterms(self):
        self.same(list(subterms(A)), [A])
        self.same(list(subterms(f(A, A, A))), [A, f(A, A, A)])
        self.same(list(subterms(samples.full_tree(8))), [samples.full_tree(many) for many in range(1, 9)])

    def test_order_of_subterms_with_long_equal_beginnings(self):
        one, other = [samples.chain(30, ("f", A, samples.chain(many))) for many in (5, 7)]
        for term in (samples.chain(39), ("f", samples.chain(38), samples.chain(38, B)), ("f", one, other)):
            self.same(list(subterms(term)), sorted(set(samples.plain_parts(term))))

    def test_stands_in(self):
        term = f(("g", A, B), ("h", ("g", A, B)))
        for part in samples.plain_parts(term):
            self.same(stands_in(part, term), True)
        for part in (C, ("g", B, A), ("h", A), f(A), ("g",), ("g", A), ("gg",), ("h", ("h", A))):
            self.same(stands_in(part, term), False)
        self.same(stands_in(term, A), False)
        self.same([stands_in(("f",), f(A)), stands_in(f(A), ("f",))], [False, False])

    def test_wrong_terms(self):
        for value in WRONG:
            for action in (places_of, levels, size_of, text_of):
                self.raises(InvalidTerm, action, value)
            self.raises(InvalidTerm, stands_in, value, A)
            self.raises(InvalidTerm, stands_in, A, value)
            self.raises(InvalidTerm, stands_in, value, value)

    def test_subterms_raise_with_their_first_value(self):
        for value in WRONG:
            self.raises(InvalidTerm, next, subterms(value))


class TestReplaced(Case):
    def test_results(self):
        self.same(replaced(A, A, B), B)
        self.same(replaced(A, B, C), A)
        self.same(replaced(f(A, B), A, f(A, A)), ("f", f(A, A), B))
        self.same(replaced(f(f(f(A))), f(A), A), f(f(A)))
        self.same(replaced(f(f(f(A))), f(f(A)), A), f(A))
        self.same(replaced(f(("g", A, A), A), ("g", A, A), A), f(A, A))

    def test_nothing_is_replaced_in_what_is_put_in(self):
        self.same(replaced(f(A), A, f(A)), f(f(A)))
        self.same(replaced(("g", A, ("h", A)), A, ("g", A, A)), ("g", ("g", A, A), ("h", ("g", A, A))))
        self.same(replaced(f(f(A)), f(A), f(f(A))), f(f(f(A))))

    def test_names_may_have_other_places_if_the_result_is_a_term(self):
        self.same(replaced(f(A), f(A), f(A, B)), f(A, B))
        self.same(replaced(("g", ("h", A)), ("h", A), ("h",)), ("g", ("h",)))
        self.same(replaced(f(A), ("g", ("f",)), ("a", B)), f(A))
        self.same(replaced(f(A), ("f",), ("a", B)), f(A))

    def test_results_that_are_no_terms(self):
        self.raises(InvalidTerm, replaced, f(A), A, f(A, B))
        self.raises(InvalidTerm, replaced, f(A), A, ("f",))
        self.raises(InvalidTerm, replaced, ("g", A, B), A, ("b", C))
        self.raises(InvalidTerm, replaced, ("g", f(A), f(B)), f(A), ("f",))

    def test_wrong_terms(self):
        for value in WRONG:
            self.raises(InvalidTerm, replaced, value, A, B)
            self.raises(InvalidTerm, replaced, A, value, B)
            self.raises(InvalidTerm, replaced, A, A, value)
            self.raises(InvalidTerm, replaced, A, B, value)
            self.raises(InvalidTerm, replaced, value, value, value)


class TestRenamed(Case):
    def both(self, term, **names):
        result = renamed_by(term, names)
        self.same(renamed(term, **names), result)
        return result

    def test_results(self):
        self.same(self.both(f(A, B), a="c"), f(C, B))
        self.same(self.both(f(A, B), f="abcdefgh"), ("abcdefgh", A, B))
        self.same(self.both(f(A, B), a="b", b="a"), f(B, A))
        self.same(self.both(f(A, B), a="b", b="c"), f(B, C))
        self.same(self.both(f(A, B), a="f", f="b", b="a"), ("b", ("f",), A))
        self.same(self.both(f(A)), f(A))
        self.same(self.both(f(A), a="a", f="f"), f(A))

    def test_other_keys_mean_nothing(self):
        self.same(self.both(f(A), b="a", c="f", d="a"), f(A))
        self.same(self.both(f(A), b="a", a="b"), f(B))
        self.same(self.both(f(A), a="g", c="g"), f(("g",)))

    def test_two_names_become_one(self):
        for term, names in ((f(A, B), {"a": "b"}), (f(A, B), {"a": "c", "b": "c"}), (f(A), {"a": "f"}),
                            (f(A), {"f": "a"}), (f(A, B), {"a": "b", "b": "b"}), (f(A, B), {"a": "b", "c": "a"})):
            self.raises(InvalidOperation, renamed_by, term, names)
            self.raises(InvalidOperation, renamed, term, **names)

    def test_a_name_of_a_parameter_needs_the_dict(self):
        self.same(renamed_by(("term", ("self",)), {"term": "names", "self": "term"}), ("names", ("term",)))

    def test_wrong_names(self):
        for value in WRONG:
            if value != {}:
                self.raises(InvalidName, renamed_by, f(A, B), value)
            self.raises(InvalidName, renamed_by, A, {"a": value})
            self.raises(InvalidName, renamed, A, a=value)
            self.raises(InvalidName, renamed, f(A, B), a="b", x=value)
            if isinstance(value, str):
                self.raises(InvalidName, renamed_by, A, {value: "a"})
                self.raises(InvalidName, renamed, f(A, B), **{"a": "b", value: "b"})
        for key in (1, None, True, A, (A, B)):
            self.raises(InvalidName, renamed_by, A, {key: "a"})

    def test_wrong_terms_come_first(self):
        for value in WRONG:
            self.raises(InvalidTerm, renamed_by, value, {"a": "b"})
            self.raises(InvalidTerm, renamed_by, value, value)
            self.raises(InvalidTerm, renamed, value, a=value)

    def test_the_dict_stays_as_it_is(self):
        names = {"b": "a", "a": "b"}
        renamed_by(f(A, B), names)
        self.same(names, {"b": "a", "a": "b"})


class TestTexts(Case):
    def test_both_ways(self):
        for term, text in ((A, "a"), (f(A), "f(a)"), (f(A, B, C), "f(a,b,c)"), (("never",), "never"),
                           (f(("g", f(A, B)), ("h", ("i", A))), "f(g(f(a,b)),h(i(a)))"), (("abcdefgh",), "abcdefgh")):
            self.same(text_of(term), text)
            self.same(read_term(text), term)

    def test_no_texts(self):
        for text in ("", " ", "a ", " a", "f(a, b)", "f (a)", "f(a,b", "f(a,b))", "f(a,,b)", "f(,a)", "f(a,)", "f()",
                     "(a)", "()", "(", ")", ",", "f(", "f)", "a,b", "a,", ",a", "f(a)b", "f(a)(b)", "f(a)g(b)", "((a))",
                     "f((a))", "f(a)(", "f(a,(b))", "ab cd", "f(a\n)", "f(a)\n", "\nf(a)", "a=b", "f(a,b,c,d)", "f(f)",
                     "f(f(a,b))", "f(g(a),g)", "g(f(a),f(a,b))", "abcdefghi", "f(abcdefghi)", "A", "f(A)", "F(a)",
                     "f(1)", "f(a)" * 2, "f[a]", "f(a;b)", "\u00e4", "f(\u03b1)", "f(a\u200b)", "f(a)\x00", "('a',)",
                     "a" * 300, "f(" * 50, "a)" * 50, "f(" * 50 + "a" + ")" * 49, "f(" * 50 + "a" + ")" * 51):
            self.raises(ParseError, read_term, text)

    def test_no_strings(self):
        for value in WRONG:
            self.raises(ParseError, read_term, value)
        for value in (A, f(A), [A], b"a"):
            self.raises(ParseError, read_term, value)

    def test_texts_with_one_sign_changed(self):
        text = "f(g(a,b),h(a),cd)"
        for k in range(len(text) + 1):
            for sign in "(),af =\n":
                for other in (text[:k] + sign + text[k:], text[:k] + sign + text[k + 1:], text[:k] + text[k + 1:]):
                    self.check_text(other)

    def check_text(self, text):
        try:
            term = read_term(text)
        except ParseError:
            return
        self.assertTrue(samples.plain_term(term))
        self.assertEqual(samples.plain_text(term), text)


class TestManyLevels(Case):
    """Texts can have any number of levels, and what is read from them goes everywhere."""

    def setUp(self):
        self.text = "f(" * DEEP + "a" + ",b)" * DEEP
        self.term = read_term(self.text)

    def test_measures(self):
        self.same([levels(self.term), size_of(self.term), places_of(self.term)],
                  [DEEP + 1, 2 * DEEP + 1, {"a": 0, "b": 0, "f": 2}])
        self.same(text_of(self.term), self.text)

    def test_subterms(self):
        found = list(subterms(self.term))
        self.same(found[:3], [A, B, found[2]])
        # Deeper ones have more names f ahead of their a, so they are greater.
        self.same([len(text_of(part)) for part in (found[2], found[3], found[DEEP + 1])], [6, 11, len(self.text)])
        self.assertEqual(len(found), DEEP + 2)

    def test_changes(self):
        other = replaced(self.term, A, C)
        self.same(text_of(other), self.text.replace("a", "c"))
        self.same([stands_in(C, other), stands_in(A, other), stands_in(f(C, B), other)], [True, False, True])
        self.same([stands_in(self.term, self.term), stands_in(self.term, other)], [True, False])
        self.same(replaced(make_term("g", self.term), self.term, A), ("g", A))
        self.same(text_of(renamed(self.term, a="b", b="a", f="g")), "g(" * DEEP + "b" + ",a)" * DEEP)

    def test_no_terms(self):
        self.raises(InvalidTerm, make_term, "f", self.term)
        self.raises(InvalidTerm, replaced, self.term, A, ("f",))
        self.raises(ParseError, read_term, self.text.replace("a", "f"))
        self.raises(ParseError, read_term, self.text + ")")
        self.raises(InvalidOperation, renamed, self.term, a="b")


class TestAgainstPlainDefinitions(Case):
    def test_random_terms(self):
        rows = samples.generator_of(1)
        for _ in range(400):
            term, old, new = [samples.random_term(rows, rows.randint(0, 4)) for _ in range(3)]
            if rows.random() < 0.7:
                old = rows.choice(samples.plain_parts(term))
            parts = samples.plain_parts(term)
            self.same(list(subterms(term)), sorted(set(parts)))
            self.same([size_of(term), places_of(term)], [len(parts), samples.plain_places([term])])
            self.same(stands_in(old, term), old in parts)
            self.same(replaced(term, old, new), samples.plain_replaced(term, old, new))
            self.same(text_of(term), samples.plain_text(term))
            self.same(read_term(text_of(term)), term)
            names = dict(zip(samples.SOME_NAMES, rows.sample(list(samples.SOME_NAMES), 8)))
            self.same(renamed_by(term, names), samples.plain_renamed(term, names))


if __name__ == "__main__":
    unittest.main()
