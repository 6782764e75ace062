"""[0.8], [3.1] and [3.2]: pairs and facts."""

import inspect
import unittest

from shownpart.base import facts
from shownpart.base.facts import (
    changed, cut, fact_renamed, fact_renamed_by, fact_text, is_fact, is_pair, make_fact, make_pair, nodes_of, places_in,
    read_fact, terms_of,
)
from shownpart.base.terms import levels, read_term, text_of
from shownpart.errors import InvalidFact, InvalidName, InvalidOperation, InvalidTerm, ParseError
from tests import samples
from tests.checks import Case
from tests.samples import A, B, C, D, E, WRONG

INTERFACE = {
    "is_pair": "(value)", "is_fact": "(value)", "make_pair": "(term, other)",
    "make_fact": "(conclusion, *conditions)", "places_in": "(fact)", "terms_of": "(fact)", "nodes_of": "(fact)",
    "cut": "(fact, second)", "changed": "(fact, old, new)", "fact_renamed": "(fact, **names)",
    "fact_renamed_by": "(fact, names)", "fact_text": "(fact)", "read_fact": "(text)",
}
AB, AC, BC, BD, CD = (A, B), (A, C), (B, C), (B, D), (C, D)
NEVER = ((), None)
DEEP = 20000


def f(*below):
    return ("f", *below)


def g(*below):
    return ("g", *below)


class TestInterface(Case):
    def test_names_and_parameters(self):
        for name, parameters in INTERFACE.items():
            action = getattr(facts, name)
            self.assertEqual(str(inspect.signature(action)), parameters)
            self.assertEqual(action.__module__, "shownpart.base.facts")


class TestWhatIsOne(Case):
    def test_pairs(self):
        for value in (AB, (A, ("ab",)), (A, f(A)), (f(A), f(B)), (f(A, B), f(B, A)), (f(f(A)), g(A)), (("az",), B)):
            self.same(is_pair(value), True)
        for value in ((B, A), (A, A), (f(A), A), [A, B], (A,), (A, B, C), (A, [B[0]]), (f(A), f(A, B)),
                      (f(A), g(f(A, B))), (B, g(A, ("b", A))), (A, None), (("f",), f(A)), ("a", "b"),
                      (f(f(A, A)), g(A))):
            self.same(is_pair(value), False)

    def test_facts(self):
        for value in (NEVER, ((), AB), ((AB,), None), ((AB,), CD), ((AB, AC, BC), AB), ((AC,), AC), ((AB,), (B, f(B)))):
            self.same(is_fact(value), True)
        for value in (((AC, AB), None), ((AB, AB), None), ([AB], None), [(), None], ((), (B, A)), ((), (A, A)),
                      (((B, A),), None), ((AB,),), ((), None, None), ((AB,), ()), ((AB,), False), ((None,), AB),
                      (AB, None), ((), [A, B]), (([A, B],), None), (((A, f(A)),), (A, f(A, A))),
                      ((AB,), (B, ("c", A), C)),
                      (((A, f(A)), (B, f(A, A))), None), (((A, f(A)), (B, ("f",))), None), (None, None), AB):
            self.same(is_fact(value), False)

    def test_no_wrong_value_is_one(self):
        for value in WRONG:
            self.same([is_pair(value), is_fact(value)], [False, False])

    def test_values_with_one_part_replaced(self):
        new_ones = [*WRONG, "a", "f", "e", A, C, f(A), f(A, B), ("f",), (), AB, CD, (AB,), (CD,), NEVER]
        for fact in (NEVER, ((), (A, f(B))), (((A, f(B)), (B, C)), None), (((A, C), (C, f(D))), (B, f(A)))):
            for new in new_ones:
                for value in samples.parts_replaced(fact, new):
                    self.same([is_fact(value), is_pair(value)], [samples.plain_fact(value), samples.plain_pair(value)])


class TestMakePair(Case):
    def test_results(self):
        self.same(make_pair(A, B), AB)
        self.same(make_pair(B, A), AB)
        self.same(make_pair(f(A), A), (A, f(A)))
        self.same(make_pair(("ab",), A), (A, ("ab",)))

    def test_wrong_terms(self):
        for value in WRONG:
            self.raises(InvalidTerm, make_pair, value, A)
            self.raises(InvalidTerm, make_pair, A, value)
            self.raises(InvalidTerm, make_pair, value, value)

    def test_terms_that_make_none(self):
        self.raises(InvalidOperation, make_pair, A, A)
        self.raises(InvalidOperation, make_pair, f(A, g(B)), f(A, g(B)))
        self.raises(InvalidFact, make_pair, f(A), f(A, B))
        self.raises(InvalidFact, make_pair, A, g(("a", B)))
        self.raises(InvalidFact, make_pair, ("f",), f(A))


class TestMakeFact(Case):
    def test_results(self):
        self.same(make_fact(None), NEVER)
        self.same(make_fact((B, A)), ((), AB))
        self.same(make_fact(AB, (D, C), AC, (C, D)), ((AC, CD), AB))
        self.same(make_fact(None, (D, B), (B, A)), ((AB, BD), None))
        self.same(make_fact((B, A), AB), ((AB,), AB))

    def test_conditions_that_say_nothing_go(self):
        self.same(make_fact(None, (A, A)), NEVER)
        self.same(make_fact(AB, (f(C), f(C)), (D, C), (A, A)), ((CD,), AB))

    def test_no_tuples_of_two_terms(self):
        for value in WRONG:
            if value is not None and value != (A, A) and value != (B, A):
                self.raises(InvalidFact, make_fact, value)
                self.raises(InvalidFact, make_fact, value, AB)
                self.raises(InvalidFact, make_fact, value, value)
                self.raises(InvalidFact, make_fact, None, value)
                self.raises(InvalidFact, make_fact, AB, CD, value, AC)
                self.raises(InvalidFact, make_fact, (A, value))
                self.raises(InvalidFact, make_fact, AB, (value, A))
        self.raises(InvalidFact, make_fact, AB, None)

    def test_equal_terms_and_unlike_places(self):
        self.raises(InvalidFact, make_fact, (A, A))
        self.raises(InvalidFact, make_fact, (f(A), f(A)), AB)
        self.raises(InvalidFact, make_fact, (f(A), f(A, B)))
        self.raises(InvalidFact, make_fact, (A, f(A)), (B, f(A, B)))
        self.raises(InvalidFact, make_fact, None, (A, f(A)), (B, ("f",)))
        self.raises(InvalidFact, make_fact, (A, f(A)), (f(A, B), f(A, B)))
        self.raises(InvalidFact, make_fact, None, (A, A), (("a", B), ("a", B)))


class TestParts(Case):
    def test_results(self):
        fact = read_fact("a=g(c,b) & b=f(a) => c=g(f(a),b)")
        self.same(places_in(fact), {"a": 0, "b": 0, "c": 0, "f": 1, "g": 2})
        self.same(terms_of(fact), (A, B, C, f(A), g(C, B), g(f(A), B)))
        self.same(nodes_of(fact), (A, B, C, f(A), g(C, B), g(f(A), B)))
        fact = read_fact("f(b)=g(f(b),f(a)) => never")
        self.same(places_in(fact), {"a": 0, "b": 0, "f": 1, "g": 2})
        self.same(terms_of(fact), (f(B), g(f(B), f(A))))
        self.same(nodes_of(fact), (A, B, f(A), f(B), g(f(B), f(A))))
        self.same([places_in(NEVER), terms_of(NEVER), nodes_of(NEVER)], [{}, (), ()])

    def test_places_are_a_new_dict(self):
        fact = ((), AB)
        places_in(fact)["a"] = 5
        self.same(places_in(fact), {"a": 0, "b": 0})

    def test_wrong_facts(self):
        for value in [*WRONG, AB, A, f(A)]:
            for action in (places_in, terms_of, nodes_of, fact_text):
                self.raises(InvalidFact, action, value)


class TestCut(Case):
    def check(self, first, second, told):
        result = cut(read_fact(first), read_fact(second))
        self.same(result if told is None else fact_text(result), told)

    def test_results(self):
        self.check("a=c => b=d", "b=d => e=f(a)", "a=c => e=f(a)")
        self.check("b=d", "b=d => never", "never")
        self.check("b=d", "a=c & b=d & e=f(a) => never", "a=c & e=f(a) => never")
        self.check("d=e & e=f(a) => b=d", "a=c & b=d & e=f(a) => a=b", "a=c & d=e & e=f(a) => a=b")
        self.check("b=d => b=d", "b=d => a=c", "b=d => a=c")
        self.check("a=c => b=d", "b=d => b=d", "a=c => b=d")

    def test_there_is_none(self):
        self.check("a=c => never", "a=c => b=d", None)
        self.check("a=c => b=d", "a=c => b=d", None)
        self.check("a=c => b=d", "a=c & d=e => never", None)
        self.check("b=d", "b=d", None)
        self.check("a=c => b=d", "b=d => a=c", None)
        self.check("b=d", "a=c & b=d => a=c", None)
        self.check("b=d => b=d", "b=d => b=d", None)
        self.check("never", "never", None)

    def test_wrong_facts(self):
        for value in [*WRONG, AB]:
            self.raises(InvalidFact, cut, value, NEVER)
            self.raises(InvalidFact, cut, NEVER, value)
            self.raises(InvalidFact, cut, value, value)

    def test_unlike_places(self):
        self.raises(InvalidFact, cut, read_fact("b=f(a)"), read_fact("b=f(a,a) => never"))
        self.raises(InvalidFact, cut, read_fact("b=f(a) => a=b"), read_fact("a=b => c=f"))
        self.raises(InvalidFact, cut, read_fact("b=f(a) => never"), read_fact("c=f"))


class TestChanged(Case):
    def check(self, fact, old, new, told):
        result = changed(read_fact(fact), read_term(old), read_term(new))
        self.same(result if told is None else fact_text(result), told)

    def test_results(self):
        self.check("a=c => b=d", "c", "g(a)", "a=g(a) => b=d")
        self.check("a=c => b=d", "a", "z", "c=z => b=d")
        self.check("a=c => b=d", "b", "e", "a=c => d=e")
        self.check("a=c & b=d => never", "a", "d", "b=d & c=d => never")
        self.check("a=c & b=c => a=d", "b", "a", "a=c => a=d")
        self.check("b=f(a) => c=f(f(a))", "f(a)", "a", "a=b => c=f(a)")
        self.check("b=f(a) => c=f(f(a))", "a", "f(a)", "b=f(f(a)) => c=f(f(f(a)))")
        self.check("a=b", "c", "d", "a=b")
        self.check("never", "a", "b", "never")

    def test_conditions_that_say_nothing_go(self):
        self.check("a=c => b=d", "a", "c", "b=d")
        self.check("a=c & b=f(a) => never", "f(a)", "b", "a=c => never")
        self.check("a=c => never", "a", "c", "never")

    def test_equal_conclusions(self):
        self.check("a=c => b=d", "b", "d", None)
        self.check("f(a)=f(b)", "a", "b", None)
        self.check("a=b => a=b", "a", "b", None)

    def test_unlike_places(self):
        fact = read_fact("a=c & b=d => b=f(a)")
        self.raises(InvalidFact, changed, fact, C, f(A, A))
        self.raises(InvalidFact, changed, fact, D, ("f",))
        self.raises(InvalidFact, changed, fact, B, ("a", B))
        self.raises(InvalidFact, changed, read_fact("c=g(a) => a=f(b)"), A, ("f",))
        self.raises(InvalidFact, changed, read_fact("c=g(a) & d=e => a=f(b)"), E, g(A, A))
        self.raises(InvalidFact, changed, read_fact("c=d => never"), C, ("d", A))

    def test_old_terms_may_have_other_places(self):
        self.check("a=f(b)", "f", "g", "a=f(b)")
        self.check("a=f(b)", "f(b,b)", "a", "a=f(b)")
        self.check("a=f(b)", "f(b)", "f", "a=f")
        self.check("a=f(b)", "f(b)", "f(a,a)", "a=f(a,a)")
        self.check("a=f(b)", "c", "f(a,a)", "a=f(b)")

    def test_wrong_values(self):
        fact = ((), AB)
        for value in WRONG:
            self.raises(InvalidFact, changed, value, A, B)
            self.raises(InvalidFact, changed, value, value, value)
            self.raises(InvalidTerm, changed, fact, value, B)
            self.raises(InvalidTerm, changed, fact, A, value)
            self.raises(InvalidTerm, changed, fact, value, value)


class TestRenamed(Case):
    def both(self, text, **names):
        fact = read_fact(text)
        result = fact_renamed_by(fact, names)
        self.same(fact_renamed(fact, **names), result)
        return fact_text(result)

    def test_results(self):
        self.same(self.both("a=c => b=d", a="z"), "c=z => b=d")
        self.same(self.both("a=c & b=d => e=f(a)", a="b", b="a"), "a=d & b=c => e=f(b)")
        self.same(self.both("a=c => b=d", b="x", d="c", c="d"), "a=d => c=x")
        self.same(self.both("a=c => a=c", a="d"), "c=d => c=d")
        self.same(self.both("b=f(a) => never", f="a", a="f"), "a(f)=b => never")
        self.same(self.both("never", a="b", c="b"), "never")
        self.same(self.both("a=c", b="a", d="c"), "a=c")

    def test_two_names_become_one(self):
        for text, names in (("a=c => b=d", {"a": "d"}), ("a=c", {"a": "b", "c": "b"}), ("b=f(a)", {"a": "f"}),
                            ("a=c => never", {"c": "a"}), ("a=b", {"a": "b", "b": "b"})):
            self.raises(InvalidOperation, fact_renamed_by, read_fact(text), names)
            self.raises(InvalidOperation, fact_renamed, read_fact(text), **names)

    def test_wrong_values(self):
        fact = read_fact("a=c => b=d")
        for value in WRONG:
            self.raises(InvalidFact, fact_renamed_by, value, {"a": "c"})
            self.raises(InvalidFact, fact_renamed_by, value, value)
            self.raises(InvalidFact, fact_renamed, value, a=value)
            self.raises(InvalidName, fact_renamed_by, fact, {"a": "c", "x": value})
            self.raises(InvalidName, fact_renamed, fact, a="c", x=value)
            if value != {}:
                self.raises(InvalidName, fact_renamed_by, fact, value)
            if isinstance(value, str):
                self.raises(InvalidName, fact_renamed, fact, **{"a": "c", value: "x"})


class TestTexts(Case):
    def test_both_ways(self):
        for fact, text in ((NEVER, "never"), (((), AB), "a=b"), (((AB,), None), "a=b => never"),
                           (((AC, BD), (E, f(A))), "a=c & b=d => e=f(a)"), (((AB,), AB), "a=b => a=b"),
                           (((), (("never",), ("nn",))), "never=nn"), (((), (A, ("never",))), "a=never"),
                           ((((("never",), ("nn",)),), None), "never=nn => never"),
                           (((), (f(A, B), f(A, C))), "f(a,b)=f(a,c)")):
            self.same(fact_text(fact), text)
            self.same(read_fact(text), fact)

    def test_no_texts(self):
        for text in ("", " ", "a", "a=", "=b", "=", "a=a", "b=a", "a=b ", " a=b", "a = b", "a=b=c", "a==b", "a=b&c=d",
                     "a=b => ", " => a=b", "=>", " => ", "a=b =>", "a=b =>c=d", "a=b=> c=d", "a=b=>c=d", "a=b  => c=d",
                     "a=b =>  c=d", "a=b => c=d => e=f", "a=b & => c=d", "& a=b => c=d", " & a=b => c=d", "a=b & c=d",
                     "a=b &  c=d => never", "a=b  & c=d => never", "a=b&c=d => never", "a=b & a=b => never",
                     "a=c & a=b => never", "a=b => never => never", "never => never", "never => a=b", "a=b => b=a",
                     "b=a => never", " never", "never ", "Never", "never=never", "nevers", "a=b => nevera",
                     "a=b & never", "a=b & never => c=d", "a=b,c=d", "a=f(a", "a=f)", "a=f() => never",
                     "a=f(a) & b=f(a,a) => never",
                     "a=f(a) => b=f", "a=b\n", "a=b\nc=d", "a=b => c=d\n", "a=abcdefghi", "a=f(a,a,a,a)", "A=b",
                     "a=\u03b2"):
            self.raises(ParseError, read_fact, text)

    def test_no_strings(self):
        for value in [*WRONG, AB, NEVER, ((), AB), b"never", ["never"], ("never",)]:
            self.raises(ParseError, read_fact, value)

    def test_texts_with_one_sign_changed(self):
        text = "a=c & b=f(d,a) => never=z"
        for k in range(len(text) + 1):
            for sign in "(),abf =>&\n":
                for other in (text[:k] + sign + text[k:], text[:k] + sign + text[k + 1:], text[:k] + text[k + 1:]):
                    self.check_text(other)

    def check_text(self, text):
        try:
            fact = read_fact(text)
        except ParseError:
            return
        self.assertTrue(samples.plain_fact(fact))
        self.assertEqual(samples.plain_fact_text(fact), text)


class TestManyLevels(Case):
    def test_both_ways(self):
        deep = "f(" * DEEP + "a" + ")" * DEEP
        other = "f(" * DEEP + "b" + ")" * DEEP
        text = f"a=b & {deep}={other} => {deep}=g({deep})"
        fact = read_fact(text)
        self.same(fact_text(fact), text)
        self.same([levels(term) for term in terms_of(fact)], [1, 1, DEEP + 1, DEEP + 1, DEEP + 2])
        self.same(len(nodes_of(fact)), 2 * (DEEP + 1) + 1)
        self.same(places_in(fact), {"a": 0, "b": 0, "f": 1, "g": 1})
        self.same(fact_text(fact_renamed(fact, a="b", b="a")),
                  f"a=b & {deep}={other} => {other}=g({other})")
        self.same(fact_text(changed(fact, B, A)), f"{deep}=g({deep})")
        self.same(changed(fact, read_term(f"g({deep})"), read_term(deep)), None)
        self.same(fact_text(cut(make_fact(fact[0][1]), fact)), f"a=b => {deep}=g({deep})")
        self.same(cut(make_fact((A, B), fact[1]), fact), None)
        self.raises(ParseError, read_fact, f"{other}={deep}")
        self.raises(ParseError, read_fact, f"{deep}={deep}")
        self.raises(InvalidFact, make_fact, (read_term(deep), read_term(deep)))
        self.raises(InvalidOperation, make_pair, read_term(deep), read_term(deep))
        self.same(text_of(make_pair(read_term(other), read_term(deep))[0]), deep)


class TestAgainstPlainDefinitions(Case):
    def test_random_facts(self):
        rows = samples.generator_of(2)
        for _ in range(600):
            fact = samples.random_fact(rows)
            self.same([is_fact(fact), fact_text(fact)], [True, samples.plain_fact_text(fact)])
            self.same(read_fact(fact_text(fact)), fact)
            terms = [term for pair in [*fact[0], fact[1] or ()] for term in pair]
            self.same(places_in(fact), samples.plain_places(terms))
            self.same(terms_of(fact), tuple(sorted(set(terms))))
            nodes = {part for term in terms for part in samples.plain_parts(term)}
            self.same(nodes_of(fact), tuple(sorted(nodes)))

    def test_random_couples(self):
        rows = samples.generator_of(3)
        for _ in range(600):
            couples = [samples.random_couple(rows) for _ in range(rows.randint(1, 5))]
            told = samples.plain_fact_of(couples[0], couples[1:])
            if told is None:
                self.raises(InvalidFact, make_fact, *couples)
            else:
                self.same(make_fact(*couples), told)
            self.same(make_fact(None, *couples), samples.plain_fact_of(None, couples))

    def test_random_changes(self):
        rows = samples.generator_of(4)
        for _ in range(600):
            fact, new = samples.random_fact(rows), samples.random_term(rows, rows.randint(0, 3))
            old = rows.choice([*nodes_of(fact), samples.random_term(rows, 1)])
            self.same(changed(fact, old, new), self.mapped(fact, lambda term: samples.plain_replaced(term, old, new)))
            names = dict(zip(samples.SOME_NAMES, rows.sample(list(samples.SOME_NAMES), 8)))
            self.same(fact_renamed_by(fact, names), self.mapped(fact, lambda term: samples.plain_renamed(term, names)))

    def mapped(self, fact, change):
        conclusion = fact[1] and tuple(change(term) for term in fact[1])
        return samples.plain_fact_of(conclusion, [tuple(change(term) for term in pair) for pair in fact[0]])

    def test_random_cuts(self):
        rows = samples.generator_of(5)
        found = 0
        for _ in range(3000):
            first, second = samples.random_fact(rows, 0), samples.random_fact(rows, 0)
            told = None
            if first[1] is not None and first[1] in second[0]:
                told = (tuple(sorted({*first[0], *second[0]} - ({first[1]} - {*first[0]}))), second[1])
                told = None if told[1] in told[0] else told
            self.same(cut(first, second), told)
            found += told is not None
        self.assertGreater(found, 100)


if __name__ == "__main__":
    unittest.main()
