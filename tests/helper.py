"""What several tests need: terms as trees, which know their parts without any counting, slow ways, odd things."""

import itertools
import unittest

from likenest.books import Book

SIGNS = (("a", 0), ("b", 0), ("g", 1), ("f", 2), ("h", 3))
A, B, G, F, H = range(5)
C_SIGNS = (("a", 0), ("b", 0), ("c", 0), ("d", 0), ("g", 1), ("f", 2))


def trees(signs, size):
    """All trees (sign's number, part, part ..) with just so many numbers."""
    found = []
    for number, (name, parts) in enumerate(signs):
        found += [(number,) + row for row in rows(signs, parts, size - 1)]
    return found


def rows(signs, many, size):
    """All tuples of so many trees with together just so many numbers."""
    if many == 0:
        return [()] if size == 0 else []
    found = []
    for first in range(1, size + 1):
        found += [(tree,) + rest for tree in trees(signs, first) for rest in rows(signs, many - 1, size - first)]
    return found


def flat(tree):
    """The term of a tree."""
    return tree[:1] + tuple(number for part in tree[1:] for number in flat(part))


def within(tree):
    """The inner trees of a tree in the order in which they begin."""
    return [tree] + [inside for part in tree[1:] for inside in within(part)]


def trees_to(size, signs=SIGNS):
    return [tree for many in range(1, size + 1) for tree in trees(signs, many)]


def terms_to(size, signs=SIGNS):
    return [flat(tree) for tree in trees_to(size, signs)]


def ahead(one, other):
    """Whether one term is ahead of the other, number by number."""
    if len(one) != len(other):
        return len(one) < len(other)
    for mine, theirs in zip(one, other):
        if mine != theirs:
            return mine < theirs
    return False


def chain(numbers):
    """g(g(..a)) with so many numbers."""
    return (G,) * (numbers - 1) + (A,)


def chain_b(numbers):
    """g(g(..b)) with so many numbers."""
    return (G,) * (numbers - 1) + (B,)


def nested(kind, deep):
    """A thing so deep, of lists, tuples or dicts."""
    thing = 0
    for level in range(deep):
        thing = {list: [thing], tuple: (thing,), dict: {"a": thing}}[kind]
    return thing


def odd_things():
    """Things of every kind that are neither signs nor terms of any signs, made anew each time."""
    return [
        None, True, False, 0, 1, 7, -1, 10 ** 39, -(10 ** 39), "", "a", "0", "a/0", "x" * 4000, "A b\t~\n",
        [], (), {}, [0], [[0]], [("a", 0)], {0: 0}, {"a": 0}, {(): ()}, [None], (None,), (True,), (False,), ("a",),
        ("a", 0), ("a", None), ((),), ([],), ({},), ((0,),), ([0],), (("a",),), ({"a": 0},), (0, None), (0, "a"),
        (10 ** 39,), (-1,), nested(list, 12), nested(tuple, 12), nested(dict, 12), (nested(list, 11),),
        [0] * 60000, (0,) * 60000, (("a", 0),) * 20000, ((),) * 50000, {place: (0,) for place in range(20000)},
    ]


# Here, since they need chain.
NO_SIGNS = [(), [("a", 0)], (["a", 0],), (("f", 1),), (("a", 0), ("a", 1)), (("A", 0),), (("a", 4), ("b", 0))]
NO_TERMS = [(), (F,), (F, A), (A, A), (5,), (-1,), (True,), (False,), [A], (F, A, B, A), chain(31), None, "a", 0]
NO_GIVENS = [[((A,), (B,))], ([(A,), (B,)],), (((A,),),), (((A,), (B,), (A,)),), ((A,), (B,)), ((),), (None,),
             (((A,), (True,)),), (((A,), [B]),), (((A,), (5,)),), (((A,), chain(31)),), {}, None, 0, "", "ab",
             (((A,), (B,)), None), (((A,), (B,)),) * 61, ((A, B),)]


class Case(unittest.TestCase):
    def refused(self, error, fields, function, *told, **named):
        """Refused with just this error, of the very class, with these fields."""
        with self.assertRaises(error) as caught:
            function(*told, **named)
        self.assertIs(type(caught.exception), error)
        self.assertEqual(vars(caught.exception), fields)


class BookCase(Case):
    def stands(self, book, known, givens, unlikes, levels):
        """The book tells just this, in values of the kinds that are told."""
        self.assertEqual(book.known(), ordered(known))
        self.assertEqual(book.givens(), tuple(givens))
        self.assertEqual(book.unlikes(), tuple(unlikes))
        self.assertEqual(book.levels(), levels)
        self.assertEqual(len(book), len(known))
        text = f"Book of {len(known)} terms, {len(givens)} givens, {len(unlikes)} unlikes, {levels} levels"
        self.assertEqual(str(book), text)
        self.assertIs(type(book.known()), list)
        self.assertIs(type(book.givens()), tuple)
        self.assertIs(type(book.unlikes()), tuple)
        self.assertIs(type(book.levels()), int)

    def unmoved(self, book, error, fields, function, *told, **named):
        """Refused so, and the book is as it was."""
        before, twin = state(book), book.twin()
        self.refused(error, fields, function, *told, **named)
        self.assertEqual(state(book), before)
        self.assertTrue(book == twin)


def book_of(givens, signs=SIGNS):
    book = Book(signs)
    for one, other in givens:
        book.tell(one, other)
    return book


def full_book():
    """A book with forty known terms."""
    book = Book(SIGNS)
    book.know(chain(30))
    book.know(chain_b(10))
    return book


def state(book):
    """All that is told of a book without a term."""
    return (book.signs(), book.known(), book.givens(), book.unlikes(), book.levels(), len(book), str(book),
            book.classes())


def tree_of(signs, term):
    """The tree of a term."""
    def read(place):
        parts = []
        end = place + 1
        for part in range(signs[term[place]][1]):
            tree, end = read(end)
            parts.append(tree)
        return (term[place],) + tuple(parts), end
    return read(0)[0]


def inner_terms(signs, terms):
    """The set of all inner terms of terms."""
    return {flat(inside) for term in terms for inside in within(tree_of(signs, term))}


def ordered(terms):
    return sorted(terms, key=lambda term: (len(term), term))


def slow_labels(signs, givens, terms):
    """A label for each inner term of terms and givens, the same just for alike ones: all are held against all."""
    told = [term for pair in givens for term in pair] + list(terms)
    trees = [tree_of(signs, term) for term in ordered(inner_terms(signs, told))]
    labels = {tree: number for number, tree in enumerate(trees)}

    def merge(one, other):
        old, new = labels[one], labels[other]
        for tree in trees:
            if labels[tree] == old:
                labels[tree] = new

    for one, other in givens:
        merge(tree_of(signs, one), tree_of(signs, other))
    changed = True
    while changed:
        changed = False
        for one, other in itertools.combinations(trees, 2):
            if labels[one] != labels[other] and one[0] == other[0]:
                if all(labels[left] == labels[right] for left, right in zip(one[1:], other[1:])):
                    merge(one, other)
                    changed = True
    return {flat(tree): labels[tree] for tree in trees}


def slow_classes(signs, givens, known):
    """The classes of known terms, as a book tells them."""
    labels = slow_labels(signs, givens, known)
    classes = {}
    for term in ordered(known):
        classes.setdefault(labels[term], []).append(term)
    return sorted(classes.values(), key=lambda terms: (len(terms[0]), terms[0]))


def drawn_term(dice, signs=SIGNS, deep=2, most=30):
    """A term of at most so deep and so many numbers; dice is a random.Random of a fixed seed."""
    bare = [number for number, (name, parts) in enumerate(signs) if parts == 0]

    def draw(deep):
        number = dice.choice(bare) if deep <= 1 else dice.randrange(len(signs))
        return (number,) + tuple(inside for part in range(signs[number][1]) for inside in draw(deep - 1))
    while True:
        term = draw(deep)
        if len(term) <= most:
            return term


def drawn_pairs(dice, many, signs=SIGNS, deep=2):
    return tuple((drawn_term(dice, signs, deep), drawn_term(dice, signs, deep)) for pair in range(many))


def is_number(thing):
    return type(thing) is int


def slow_term(signs, thing):
    """Whether it is a term, of anything: read as a tree."""
    if type(thing) is not tuple or not 1 <= len(thing) <= 30:
        return False
    return slow_row(signs, thing, 0)


def slow_row(signs, thing, letters):
    """Whether a tuple is one tree of signs and so many letters, read from its begin to its end."""
    def read(place):
        if place >= len(thing) or not is_number(thing[place]):
            return None
        if -letters <= thing[place] < 0:
            return place + 1
        if not 0 <= thing[place] < len(signs):
            return None
        end = place + 1
        for part in range(signs[thing[place]][1]):
            end = None if end is None else read(end)
        return end
    return read(0) == len(thing)


def otherwise(thing):
    """The thing with one thing otherwise at any depth, in many ways, one after the other."""
    if is_number(thing):
        yield from (thing + 1, thing - 1, -1 - thing, 10 ** 39, thing == 1, None, str(thing), (thing,), [thing])
        return
    if type(thing) is str:
        yield from (thing + "s", thing[1:], thing.upper(), None, 0, (thing,), [thing])
        return
    if type(thing) is not tuple:
        yield from (None, 0, "a", (), [])
        return
    yield from (list(thing), None, 0, True, "a", {}, dict.fromkeys(range(len(thing))), (thing,), thing + (0,))
    yield from (thing + (None,), thing + ((),), thing[::-1])
    for place in range(len(thing)):
        yield thing[:place] + thing[place + 1:]
        yield thing[:place + 1] + thing[place:]
        for inside in otherwise(thing[place]):
            yield thing[:place] + (inside,) + thing[place + 1:]


def slow_table(signs, model, tree):
    """The worth of a tree in a model, each table gone through from its begin."""
    size, rest, tables = model
    parts = tuple(slow_table(signs, model, part) for part in tree[1:])
    for row, worth in tables[tree[0]]:
        if row == parts:
            return worth
    return rest


def slow_worth(signs, model, term):
    return slow_table(signs, model, tree_of(signs, term))


def slow_model(signs, thing):
    """Whether it is a model of the signs, of anything: rule by rule."""
    def is_thing(one):
        return is_number(one) and one in range(thing[0])

    if type(thing) is not tuple or len(thing) != 3 or not is_number(thing[0]) or not 1 <= thing[0] <= 300:
        return False
    if not is_thing(thing[1]) or type(thing[2]) is not tuple or len(thing[2]) != len(signs):
        return False
    for (name, many), table in zip(signs, thing[2]):
        if type(table) is not tuple:
            return False
        for row in table:
            if type(row) is not tuple or len(row) != 2 or type(row[0]) is not tuple or len(row[0]) != many:
                return False
            if not all(is_thing(one) for one in row[0] + (row[1],)) or row[1] == thing[1]:
                return False
        if list(table) != sorted(set(table)) or len({row[0] for row in table}) != len(table):
            return False
    return True


def slow_matches(nest, pattern):
    """All rows of classes in the letters' places, each looked through from within; by the classes alone."""
    signs = (*nest.signs(), ("u", 0), ("v", 0), ("w", 0))
    many = len(nest.signs())
    classes = nest.classes()
    first = {term: terms[0] for terms in classes for term in terms}
    shapes = {}
    for term in first:
        parts = tree_of(nest.signs(), term)[1:]
        shapes[(term[0],) + tuple(first[flat(part)] for part in parts)] = first[term]
    tree = tree_of(signs, tuple(number if number >= 0 else many - 1 - number for number in pattern))
    letters = len({number for number in pattern if number < 0})

    def class_of(tree, row):
        if tree[0] >= many:
            return row[tree[0] - many]
        parts = tuple(class_of(part, row) for part in tree[1:])
        return shapes.get((tree[0],) + parts)

    found = []
    for row in itertools.product([terms[0] for terms in classes], repeat=letters):
        whole = class_of(tree, row)
        if whole is not None:
            found.append((whole,) + row)
    return sorted(found)


def slow_class_model(signs, classes):
    """The model with a thing for each class, in their order, and rest."""
    thing = {term: number for number, terms in enumerate(classes) for term in terms}
    tables = [set() for sign in signs]
    for term in thing:
        tables[term[0]].add((tuple(thing[flat(part)] for part in tree_of(signs, term)[1:]), thing[term]))
    return (len(classes) + 1, len(classes), tuple(tuple(sorted(table)) for table in tables))


def slow_side(signs, model, side, row):
    """The worth of a rule's side with the things of a row in the letters' places."""
    def read(place):
        if side[place] < 0:
            return row[-1 - side[place]], place + 1
        parts, end = [], place + 1
        for part in range(signs[side[place]][1]):
            worth, end = read(end)
            parts.append(worth)
        return dict(model[2][side[place]]).get(tuple(parts), model[1]), end
    return read(0)[0]


def slow_holds(signs, model, rule):
    """Whether a rule's two sides have the same worth for every row of things."""
    letters = len({number for number in rule[0] if number < 0})
    return all(slow_side(signs, model, rule[0], row) == slow_side(signs, model, rule[1], row)
               for row in itertools.product(range(model[0]), repeat=letters))


def slow_pair(pairs, grounds, line):
    """The pair of terms that a line shows behind those pairs, by the words of the document; None where it is none."""
    signs, givens, rules = grounds

    def number(thing, many):
        return is_number(thing) and thing in range(many)

    match line if type(line) is tuple else None:
        case ("self", term) if slow_term(signs, term):
            return (term, term)
        case ("given", k) if number(k, len(givens)):
            return givens[k]
        case ("turned", i) if number(i, len(pairs)):
            return pairs[i][::-1]
        case ("joined", i, j) if number(i, len(pairs)) and number(j, len(pairs)) and pairs[i][1] == pairs[j][0]:
            return (pairs[i][0], pairs[j][1])
        case ("parts", sign, lines) if number(sign, len(signs)) and type(lines) is tuple:
            if len(lines) == signs[sign][1] and all(number(i, len(pairs)) for i in lines):
                return tuple((sign,) + sum((pairs[i][side] for i in lines), ()) for side in (0, 1))
        case ("rule", r, terms) if number(r, len(rules)) and type(terms) is tuple:
            if len(terms) == len({n for n in rules[r][0] if n < 0}) and all(slow_term(signs, t) for t in terms):
                return tuple(sum((terms[-1 - n] if n < 0 else (n,) for n in side), ()) for side in rules[r])
    return None


def slow_pairs(grounds, lines):
    """The pairs that lines show, None where one is none, of anything."""
    if type(lines) is not tuple or not 1 <= len(lines) <= 20000:
        return None
    pairs = []
    for line in lines:
        pair = slow_pair(pairs, grounds, line)
        if pair is None or max(len(pair[0]), len(pair[1])) > 200:
            return None
        pairs.append(pair)
    return pairs


def named(line):
    """The numbers of lines that a line names."""
    return {"turned": line[1:], "joined": line[1:], "parts": line[2] if len(line) > 2 else ()}.get(line[0], ())


def are_lean(grounds, lines):
    pairs = slow_pairs(grounds, lines)
    told = {number for line in lines for number in named(line)}
    return len(set(pairs)) == len(lines) and told == set(range(len(lines) - 1))
