"""Divisions of terms into classes, with what was joined and why."""

from shownpart.base.walks import preorder

# Why two terms were joined; the number of a rule tells that it was this rule.
PLACES = -1
GIVEN = -2


class Store:
    """Terms under numbers; the terms of a term have lower numbers than itself."""

    def __init__(self, rows):
        self.table = list(rows)
        self.numbers = {row: number for number, row in enumerate(rows)}

    def number_of_row(self, row):
        """The number of the term with this name and these numbers of terms."""
        number = self.numbers.setdefault(row, len(self.table))
        if number == len(self.table):
            self.table.append(row)
        return number

    def number_of(self, term):
        """The number of a term."""
        ready = []
        for part in preorder([term])[::-1]:
            below = [ready.pop() for _ in part[1:]]
            ready.append(self.number_of_row((part[0], *below)))
        return ready[0]

    def numbers_of_pairs(self, pairs):
        """Tuples of two terms as tuples of their numbers."""
        return [(self.number_of(one), self.number_of(other)) for one, other in pairs]

    def inner(self, numbers):
        """The ascending list of some numbers and those of all terms that stand in theirs."""
        found = {number: True for number in numbers}
        waiting = list(found)
        while waiting:
            row = self.table[waiting.pop()]
            for below in row[1:]:
                if below not in found:
                    found[below] = True
                    waiting.append(below)
        return sorted(found)

    def term_of(self, number):
        """The term with this number."""
        terms = {}
        for inner in self.inner([number]):
            row = self.table[inner]
            terms[inner] = (row[0], *[terms[below] for below in row[1:]])
        return terms[number]


class Division:
    """Classes of terms of a store.

    Terms of one name are joined as soon as their terms are, place by place.
    """

    def __init__(self, store):
        self.store = store
        self.leaders = {}
        self.members = {}
        # For each class the terms that have a term of it at one of their places.
        self.users = {}
        # For each name and leaders of the terms behind it a term of that form.
        self.forms = {}
        # What was joined, and why, in order: they hold each class together without any ring.
        self.joints = []
        # The number of the first rule without conclusion whose conditions all hold.
        self.broken = None

    def twin(self):
        """Another division that is equal now."""
        other = Division(self.store)
        other.leaders = dict(self.leaders)
        other.members = {leader: list(self.members[leader]) for leader in self.members}
        other.users = {leader: list(self.users[leader]) for leader in self.users}
        other.forms = {form: self.forms[form] for form in self.forms}
        other.joints = list(self.joints)
        other.broken = self.broken
        return other

    def include(self, numbers):
        """Take in terms, with all that stands in them."""
        missing = [number for number in numbers if number not in self.leaders]
        for number in self.store.inner(missing):
            if number not in self.leaders:
                self.take(number)

    def take(self, number):
        """Take in one term; those that stand in it are there."""
        self.leaders[number] = number
        self.members[number] = [number]
        self.users[number] = []
        for below in self.store.table[number][1:]:
            self.users[self.leaders[below]].append(number)
        self.merge(number, self.forms.setdefault(self.form_of(number), number), PLACES)

    def form_of(self, number):
        """The name of a term and the leaders of its terms."""
        row = self.store.table[number]
        return (row[0], *[self.leaders[below] for below in row[1:]])

    def are_joined(self, one, other):
        """Whether two terms that are there are in one class."""
        return self.leaders[one] == self.leaders[other]

    def have_joined(self, pairs):
        """Whether all of these pairs are in one class each; their terms are taken in."""
        self.include([number for pair in pairs for number in pair])
        return all([self.are_joined(one, other) for one, other in pairs])

    def merge(self, one, other, why):
        """Join the classes of two terms that are there, and what is joined with them."""
        waiting = [(one, other, why)]
        while waiting:
            first, second, reason = waiting.pop()
            kept = self.leaders[first]
            gone = self.leaders[second]
            if kept == gone:
                continue
            self.joints.append((first, second, reason))
            if len(self.members[kept]) < len(self.members[gone]):
                kept, gone = gone, kept
            moved = self.members.pop(gone)
            for number in moved:
                self.leaders[number] = kept
            self.members[kept].extend(moved)
            touched = self.users.pop(gone)
            self.users[kept].extend(touched)
            for user in touched:
                like = self.forms.setdefault(self.form_of(user), user)
                if self.leaders[like] != self.leaders[user]:
                    waiting.append((user, like, PLACES))

    def join_all(self, pairs):
        """Join pairs that are given."""
        self.include([number for pair in pairs for number in pair])
        for one, other in pairs:
            self.merge(one, other, GIVEN)

    def settle(self, rules):
        """Join what rules join, until none of them joins any more.

        The terms of the rules are there. Rules are pairs of conditions and a conclusion, or `None`.
        """
        waiting = list(range(len(rules)))
        joined = True
        while joined:
            joined = False
            rest = []
            for k in waiting:
                conditions, conclusion = rules[k]
                if not all([self.are_joined(one, other) for one, other in conditions]):
                    rest.append(k)
                elif conclusion is None:
                    self.broken = k if self.broken is None else self.broken
                elif not self.are_joined(conclusion[0], conclusion[1]):
                    self.merge(conclusion[0], conclusion[1], k)
                    joined = True
            waiting = rest


def division_of(store, rules, pairs):
    """The least division of all terms of a store in which these pairs are joined, and what rules join."""
    division = Division(store)
    division.include(list(range(len(store.table))))
    division.join_all(pairs)
    division.settle(rules)
    return division
