"""What a book consists of, worked out once."""

from shownpart.base.facts import key_of, pairs_in, sides_of
from shownpart.base.terms import by_name
from shownpart.base.walks import order_of, rows_and_roots, terms_from


class Contents:
    """Facts in order, names with their places, hidden names, and all of it under numbers."""

    def __init__(self, facts, hidden, places):
        found = {fact_key(fact): fact for fact in facts}
        self.fact_list = tuple([found[key] for key in sorted(found)])
        self.places = by_name(places)
        self.secret = {name: True for name in sorted(set(hidden))}
        self.by_text = {text_by_key(key): found[key] for key in sorted(found)}
        rows, roots = rows_and_roots(sides_of([pair for fact in self.fact_list for pair in pairs_in(fact)]))
        # Row by row: a name and the numbers of its terms, which are told ahead of it.
        self.table = tuple(rows)
        self.order = tuple(order_of(rows))
        terms = terms_from(rows)
        self.node_list = tuple([terms[number] for number in self.order])
        self.rules = rules_of(self.fact_list, roots)
        self.whole_text = "\n".join([*self.headlines(), *self.by_text])

    def headlines(self):
        """The lines ahead of the facts in the text."""
        lines = []
        if self.secret:
            lines.append("hidden " + ",".join(list(self.secret)))
        used = {row[0]: True for row in self.table}
        further = [f"{name}/{self.places[name]}" for name in self.places if name not in used]
        if further:
            lines.append("names " + ",".join(further))
        return lines


def fact_key(fact):
    """A key that has the order of the facts."""
    conclusion = () if fact[1] is None else key_of(fact[1])
    return (tuple([key_of(pair) for pair in fact[0]]), conclusion)


def text_by_key(key):
    """The text of a fact with this key."""
    conditions, conclusion = key
    end = "=".join(conclusion) if conclusion else "never"
    told = " & ".join(["=".join(pair) for pair in conditions])
    return f"{told} => {end}" if told else end


def rules_of(facts, roots):
    """The facts under numbers: each one as its conditions and its conclusion, as pairs of the numbers of terms.

    The roots are the numbers of the terms of all pairs of the facts, in order.
    """
    rules = []
    place = 0
    for fact in facts:
        many = len(pairs_in(fact))
        pairs = [(roots[place + 2 * k], roots[place + 2 * k + 1]) for k in range(many)]
        place = place + 2 * many
        conclusion = None if fact[1] is None else pairs[-1]
        rules.append((tuple(pairs[:len(fact[0])]), conclusion))
    return tuple(rules)
