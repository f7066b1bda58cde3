"""Which terms are alike by links, and by which steps: what books, lines and models share."""

from likenest.terms import gathered, split_term


class Closure:
    """Terms in order, each with all its inner ones, made alike by links (one, other, line).

    A place in the order stands for its term, so a part's place is ahead of that of its whole.
    """

    def __init__(self, signs, terms, links):
        self.ranked = terms
        self.place_of = {term: place for place, term in enumerate(terms)}
        self.shapes = [(term[0], [self.place_of[part] for part in split_term(signs, term)]) for term in terms]
        self.heads = list(range(len(terms)))
        self.unions = []
        for one, other, line in links:
            self.unite(self.place_of[one], self.place_of[other], line)
        while self.unite_like_parts():
            pass

    def unite(self, one, other, line):
        """Make the classes of two places one, and tell whether they were two.

        Only what joins two classes is kept, so the unions make trees: just one path leads from a term to another.
        """
        low = min(self.heads[one], self.heads[other])
        high = max(self.heads[one], self.heads[other])
        if low == high:
            return False
        self.heads = [low if head == high else head for head in self.heads]
        self.unions.append((one, other, line))
        return True

    def unite_like_parts(self):
        """Unite what is of one sign with like parts, in one pass, and tell whether there was any."""
        united = False
        places = {}
        for place in range(len(self.shapes)):
            shape = self.class_shape(place)
            if shape not in places:
                places[shape] = place
            elif self.unite(places[shape], place, None):
                united = True
        return united

    def class_shape(self, place):
        """The sign of the term at a place, and the heads of its parts."""
        sign, parts = self.shapes[place]
        return (sign, tuple([self.heads[part] for part in parts]))

    def are_alike(self, one, other):
        """Whether two of the terms are alike."""
        return self.heads[self.place_of[one]] == self.heads[self.place_of[other]]

    def first_of(self, term):
        """The first one of the class of one of the terms."""
        return self.ranked[self.heads[self.place_of[term]]]

    def class_lists(self):
        """The classes, each a list of terms in order, by their first ones: a list."""
        lists = {}
        for place, head in enumerate(self.heads):
            lists.setdefault(head, []).append(self.ranked[place])
        # A head is the first place of its class, so the lists stand in the order of their first ones.
        return list(lists.values())


def given_links(givens):
    """The links of numbered givens: a list."""
    return [(one, other, ("given", number)) for number, (one, other) in enumerate(givens)]


def closure_of(signs, known, givens, others):
    """The closure of known terms and others, known or not, by numbered givens."""
    return Closure(signs, gathered(signs, known, others), given_links(givens))


def book_closure(book, others):
    """The closure of a book's known terms and others, known or not, by its givens."""
    return closure_of(book.signs(), book.known(), book.givens(), others)
