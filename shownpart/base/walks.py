"""Ways through terms that are known to be terms.

Terms can have any number of levels, but Python compares nested tuples by
recursion. So nothing here calls itself, and terms are compared by numbers
(`numbered`) or by their texts (`written`), never by `==` or `<`.
"""

# So many names tell most terms apart; only longer equal beginnings take more rounds.
FIRST_WIDTH = 16

# Up to so many parts it is quicker to compare texts.
MANY_PARTS = 100000


def preorder(terms):
    """All subterms of some terms, repeats counted, each one ahead of those in it, from left to right."""
    found = []
    waiting = list(terms[::-1])
    while waiting:
        part = waiting.pop()
        found.append(part)
        waiting.extend(part[:0:-1])
    return found


def written(term):
    """The text of a term.

    If each name has one number of places, texts have the order of their
    terms: what stands behind a name is less than every letter.
    """
    words = []
    waiting = [term]
    while waiting:
        part = waiting.pop()
        if isinstance(part, str):
            words.append(part)
        elif len(part) == 1:
            words.append(part[0])
        else:
            words.append(part[0] + "(")
            waiting.append(")")
            for below in part[:1:-1]:
                waiting.append(below)
                waiting.append(",")
            waiting.append(part[1])
    return "".join(words)


def numbered(parts):
    """A number for each of the terms of a preorder; equal terms, and only these, have equal numbers."""
    return numbered_rows(parts)[0]


def numbered_rows(parts):
    """The numbers for the terms of a preorder, and the rows: for each number a name and the numbers of its terms.

    The terms of a term have lower numbers than itself.
    """
    table = {}
    ready = []
    numbers = []
    for part in parts[::-1]:
        # Backwards, what stands in a part is ready already, its first term uppermost.
        below = [ready.pop() for _ in part[1:]]
        number = table.setdefault((part[0], *below), len(table))
        ready.append(number)
        numbers.append(number)
    return numbers[::-1], list(table)


def rows_and_roots(terms):
    """The rows of some terms and all that stands in them, and the numbers of the terms themselves."""
    numbers, rows = numbered_rows(preorder(terms))
    sizes = sizes_of(rows)
    roots = []
    place = 0
    for _ in terms:
        roots.append(numbers[place])
        place = place + sizes[numbers[place]]
    return rows, roots


def sizes_of(rows):
    """For each row the number of subterms of its term, repeats counted."""
    sizes = []
    for row in rows:
        sizes.append(1 + sum([sizes[number] for number in row[1:]]))
    return sizes


def occurs(term, other):
    """Whether a term is a subterm of another one."""
    many = len(preorder([term]))
    numbers = numbered(preorder([term, other]))
    return numbers[0] in numbers[many:]


def put_in(term, old, new):
    """The term with a new one in the place of each subterm that equals an old one."""
    many = len(preorder([old]))
    parts = preorder([old, term])
    numbers = numbered(parts)
    ready = []
    # No term stands within itself, so none of the places lies within another one.
    for k in range(len(parts) - 1, many - 1, -1):
        below = [ready.pop() for _ in parts[k][1:]]
        if numbers[k] == numbers[0]:
            ready.append(new)
        else:
            ready.append((parts[k][0], *below))
    return ready[0]


def with_names(term, names):
    """The term with the names that a dict tells in the place of its own."""
    ready = []
    for part in preorder([term])[::-1]:
        below = [ready.pop() for _ in part[1:]]
        ready.append((names.get(part[0], part[0]), *below))
    return ready[0]


def ascending(terms):
    """The different subterms of some terms, in which each name has one number of places, ascending."""
    parts = preorder(terms)
    numbers, rows = numbered_rows(parts)
    found = {number: part for number, part in zip(numbers, parts)}
    return tuple([found[number] for number in order_of(rows)])


def terms_from(rows):
    """The terms of some rows; what stands in a term is told ahead of it."""
    terms = []
    for row in rows:
        terms.append((row[0], *[terms[number] for number in row[1:]]))
    return terms


def order_of(rows):
    """The numbers of some rows, in the order of their terms; each name has one number of places."""
    if sum(sizes_of(rows)) > MANY_PARTS:
        return order_by_ranks(rows)
    texts = []
    for row in rows:
        below = ",".join([texts[number] for number in row[1:]])
        texts.append(f"{row[0]}({below})" if below else row[0])
    found = {text: number for number, text in enumerate(texts)}
    return [found[text] for text in sorted(found)]


def order_by_ranks(rows):
    """The order of rows whose texts would be too long together."""
    inner = {number: True for row in rows for number in row[1:]}
    waiting = [number for number in range(len(rows)) if number not in inner]
    numbers = []
    while waiting:
        number = waiting.pop()
        numbers.append(number)
        waiting.extend(rows[number][:0:-1])
    # With one number of places for each name, no term is the beginning of another one:
    # the names from its first one on, to the end of all parts, have the order of the terms.
    places = {rank: k for k, rank in enumerate(ranked([rows[number][0] for number in numbers]))}
    found = {}
    for rank in range(len(numbers)):
        found.setdefault(numbers[places[rank]], True)
    return list(found)


def ranked(names):
    """For each position of a list its rank among all, by the order of what stands from there on."""
    many = len(names)
    width = FIRST_WIDTH
    ranks = dense([tuple(names[k:k + width]) for k in range(many)])
    while len(set(ranks)) < many:
        # Ranks by so many names, one behind the other, are ranks by twice as many.
        further = ranks[width:] + [-1] * width
        ranks = dense(list(zip(ranks, further)))
        width = 2 * width
    return ranks


def dense(keys):
    """For each key its rank among the different ones."""
    ranks = {key: rank for rank, key in enumerate(sorted(set(keys)))}
    return [ranks[key] for key in keys]
