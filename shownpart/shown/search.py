"""All visible facts that follow from a book, found by what its visible terms can be."""

from shownpart.base.facts import places_in
from shownpart.books.books import stands_hidden
from shownpart.closing.division import Division, Store, division_of
from shownpart.closing.rules import fact_from, is_settled, joined_by, reduced, rule_of
from shownpart.shown.states import State


class Search:
    """A search for visible facts that follow from a book, and not from visible facts that are told.

    In a world, the hidden terms of a book fall together step by step, as
    visible pairs hold there. So the search goes from a closing by some visible
    pairs on to those by the further pairs of each step. What joins terms of
    known classes makes a fact, and leads no further: it changes nothing that is
    hidden. In a world in which several steps can be made, the first of them is
    enough; so where a later one was made, the pairs of the earlier ones do not
    hold, and a closing in which they are joined again is left.
    """

    def __init__(self, book, secret, is_one_enough):
        self.secret = secret
        self.is_one_enough = is_one_enough
        self.rules = book.contents.rules
        self.store = Store(book.contents.table)
        self.base = division_of(self.store, self.rules, [])
        visible = [not stands_hidden(secret, places_in(fact)) for fact in book.facts]
        self.visible_rules = [rule for rule, is_visible in zip(self.rules, visible) if is_visible]
        self.hidden_rules = [rule for rule, is_visible in zip(self.rules, visible) if not is_visible]
        # Visible rules, and the numbers of the terms of their pairs.
        self.told = []
        self.told_terms = []
        # Those of them that were found.
        self.found = []

    def tell_facts(self, facts):
        """Tell visible facts."""
        for fact in facts:
            self.tell(rule_of(self.store, fact))

    def tell_visible_rules(self):
        """Tell the visible rules of the book, with as few conditions as they follow with."""
        for rule in self.visible_rules:
            self.tell(reduced(self.base, self.rules, rule))

    def tell(self, rule):
        """Tell a visible rule."""
        self.told.append(rule)
        pairs = rule[0] if rule[1] is None else [*rule[0], rule[1]]
        self.told_terms.extend([number for pair in pairs for number in pair])

    def told_facts(self):
        """The facts that were told and found."""
        return [fact_from(self.store, rule) for rule in self.told]

    def check_visible_rules(self):
        """Find visible rules of the book that do not follow from those told."""
        for conditions, conclusion in self.visible_rules:
            if not self.is_done():
                self.check(conditions, conclusion, self.seen_with(Division(self.store), conditions))

    def check_hidden_rules(self):
        """Find visible rules from which, together with those told and the visible ones of the book, all others follow.

        It is only one of them, if one is enough.
        """
        waiting = [(self.base, (), Division(self.store), ())]
        while waiting and not self.is_done():
            division, pairs, seen, barred = waiting.pop()
            is_left = any([division.have_joined(further) for further in barred])
            state = State(division, self.secret, pairs)
            self.check_state(state, seen)
            if not is_left and division.broken is None and not self.is_done():
                waiting.extend(self.states_behind(state, seen, barred)[::-1])

    def is_done(self):
        """Whether one fact was found, and one is enough."""
        return self.is_one_enough and len(self.found) > 0

    def check_state(self, state, seen):
        """Find what visible terms are joined in a state, and whether it failed."""
        self.settle(seen)
        if state.division.broken is not None:
            self.check(state.pairs, None, seen)
            return
        for pair in state.visible_pairs():
            self.check(state.pairs, pair, seen)

    def states_behind(self, state, seen, barred):
        """The states behind a state, and what is seen and barred there; steps without any are checked."""
        for pairs, conclusion in state.facts_onward(self.hidden_rules):
            self.check((*state.pairs, *pairs), conclusion, self.seen_with(seen, pairs))
        states = []
        ahead = list(barred)
        for pairs in state.pairs_onward(self.hidden_rules):
            division = joined_by(state.division, self.rules, pairs)
            states.append((division, (*state.pairs, *pairs), self.seen_with(seen, pairs), tuple(ahead)))
            ahead.append(pairs)
        return states

    def seen_with(self, seen, pairs):
        """What visible rules join if further pairs are joined."""
        further = seen.twin()
        further.join_all(pairs)
        self.settle(further)
        return further

    def settle(self, seen):
        """Join what the visible rules join that were told up to now."""
        seen.include(self.told_terms)
        seen.settle(self.told)

    def check(self, conditions, conclusion, seen):
        """Take a rule that follows from the book as found, unless it follows from the visible ones told up to now."""
        if not is_settled(seen, conclusion):
            rule = reduced(self.base, self.rules, (conditions, conclusion))
            self.tell(rule)
            self.found.append(rule)
            self.settle(seen)
