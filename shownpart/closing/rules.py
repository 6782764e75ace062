"""Facts under the numbers of a store: pairs of conditions and a conclusion, which is `None` for never."""

from shownpart.base.facts import fact_of


def rule_of(store, fact):
    """A fact under numbers."""
    conclusion = None if fact[1] is None else store.numbers_of_pairs([fact[1]])[0]
    return store.numbers_of_pairs(fact[0]), conclusion


def fact_from(store, rule):
    """The fact with these numbers."""
    couples = [(store.term_of(one), store.term_of(other)) for one, other in rule[0]]
    if rule[1] is None:
        return fact_of(None, couples)
    return fact_of((store.term_of(rule[1][0]), store.term_of(rule[1][1])), couples)


def is_settled(division, conclusion):
    """Whether a rule with this conclusion follows if its conditions are joined in the division."""
    return division.broken is not None or conclusion is not None and division.have_joined([conclusion])


def joined_by(base, rules, pairs):
    """The division that comes from another one by joining pairs, and what rules join then."""
    division = base.twin()
    division.join_all(pairs)
    division.settle(rules)
    return division


def follows_in(base, rules, rule):
    """Whether a rule follows from others, which have joined in the division what they join without conditions."""
    return is_settled(joined_by(base, rules, rule[0]), rule[1])


def reduced(base, rules, rule):
    """A rule that follows from others, with only so many of its conditions that it follows with no fewer of them."""
    kept = list(rule[0])
    for pair in rule[0]:
        fewer = [other for other in kept if other != pair]
        if follows_in(base, rules, (fewer, rule[1])):
            kept = fewer
    return kept, rule[1]
