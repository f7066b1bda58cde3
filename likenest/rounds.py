"""What comes of rules in rounds: points 90 to 92 of the document."""

from likenest.closure import Closure, given_links
from likenest.errors import NoRounds, NotKnown
from likenest.lines import closure_lines
from likenest.models import closure_model, lookups
from likenest.patterns import check_rules, filled, letters_of, matches
from likenest.terms import MOST_NUMBERS, check_term, check_two, gathered, is_whole

MOST_KNOWN = 60
MOST_GOING = 8
MOST_ROWS = 20000


def check_rounds(thing, least, most):
    """Refuse what is no whole number from the least to the most."""
    if not is_whole(thing) or not least <= thing <= most:
        raise NoRounds()


def instances(nest, rules):
    """The links (left, right, line) of all matches of the rules' left sides, rule by rule: a list."""
    links = []
    for number, (left, right) in enumerate(rules):
        for found in matches(nest, left):
            terms = found[1:]
            links.append((filled(left, terms), filled(right, terms), ("rule", number, terms)))
    return links


def sides_of(links):
    """Both sides of each link: a list."""
    return [side for one, other, line in links for side in (one, other)]


def rows_many(size, letters):
    """How many rows of so many letters' things there are."""
    many = 1
    for letter in range(letters):
        many *= size
    return many


def thing_columns(size, letters):
    """For each letter a list of its thing in each of the rows: a list."""
    rows = [()]
    for letter in range(letters):
        rows = [row + (thing,) for row in rows for thing in range(size)]
    return [[row[letter] for row in rows] for letter in range(letters)]


def side_worths(signs, model, side, columns, many):
    """The worth of a rule's side in each of so many rows, whose things stand in the letters' columns: a list."""
    rest = model[1]
    tables = lookups(model)
    worths = []
    # From the right, so that the worths of a place's parts stand last, the first of them at the very end.
    for number in reversed(side):
        if number < 0:
            worths.append(columns[-number - 1])
        elif signs[number][1] == 0:
            worths.append([tables[number].get((), rest)] * many)
        else:
            parts = [worths.pop() for part in range(signs[number][1])]
            worths.append([tables[number].get(row, rest) for row in zip(*parts)])
    return worths[0]


def rule_holds(signs, model, rule):
    """Whether the two sides of a rule have the same worth for every row of things in its letters' places."""
    left, right = rule
    letters = letters_of(left)
    columns = thing_columns(model[0], letters)
    many = rows_many(model[0], letters)
    return side_worths(signs, model, left, columns, many) == side_worths(signs, model, right, columns, many)


class Rounds:
    """A book's known terms and givens, and what rules make of them, round by round.

    The closure is of all that is known now; a round that is done puts another one in its place.
    """

    def __init__(self, book, rules=(), *, most=MOST_KNOWN):
        check_rules(book.signs(), rules)
        check_rounds(most, 1, MOST_KNOWN)
        self.own_signs = book.signs()
        self.own_rules = rules
        self.most_known = most
        self.links = given_links(book.givens())
        self.closure = Closure(self.own_signs, book.known(), self.links)
        self.own_word = "begun"
        self.rounds_done = 0

    def go(self):
        """Go one round: how many instances were new, 0 where it isn't done."""
        if self.own_word == "still" or self.own_word == "full":
            return 0
        new = [link for link in instances(self, self.own_rules) if self.is_new(link)]
        if not new:
            self.own_word = "still"
            return 0
        # What isn't new has known sides, so the new ones tell all that would be known.
        grown = self.grown_by(sides_of(new))
        if grown is None:
            self.own_word = "full"
            return 0
        self.links = self.links + new
        self.closure = Closure(self.own_signs, grown, self.links)
        self.own_word = "going"
        self.rounds_done += 1
        return len(new)

    def is_new(self, link):
        """Whether a side of a link isn't known, or the two aren't alike."""
        one, other, line = link
        if not self.is_known(one) or not self.is_known(other):
            return True
        return not self.closure.are_alike(one, other)

    def is_known(self, term):
        """Whether a term is known."""
        return term in self.closure.place_of

    def grown_by(self, sides):
        """What would be known with these sides, in order: a list; None where it would be too much."""
        if any([len(side) > MOST_NUMBERS for side in sides]):
            return None
        grown = gathered(self.own_signs, self.closure.ranked, sides)
        return None if len(grown) > self.most_known else grown

    def go_on(self, most=3):
        """Go so many rounds, at most, till it is still or full: the word then."""
        check_rounds(most, 0, MOST_GOING)
        for turn in range(most):
            self.go()
        return self.own_word

    def word(self):
        """The word: begun, going, still or full."""
        return self.own_word

    def done(self):
        """How many rounds were done."""
        return self.rounds_done

    def known(self):
        """The known terms in order: a list."""
        return list(self.closure.ranked)

    def classes(self):
        """The classes of known terms, each in order, by their first ones: a list of lists."""
        return self.closure.class_lists()

    def check_known(self, terms):
        """Refuse the first of these terms that isn't known."""
        for term in terms:
            if not self.is_known(term):
                raise NotKnown(term)

    def first(self, term):
        """The first one of the class of a known term."""
        check_term(self.own_signs, term)
        self.check_known((term,))
        return self.closure.first_of(term)

    def signs(self):
        """The signs of the book."""
        return self.own_signs

    def alike(self, one, other):
        """Whether two known terms are alike."""
        check_two(self.own_signs, one, other)
        self.check_known((one, other))
        return self.closure.are_alike(one, other)

    def answer(self, one, other):
        """("alike", lines), ("unlike", model) or ("open", word, many) of two known terms."""
        if self.alike(one, other):
            return ("alike", closure_lines(self.closure, one, other))
        if self.own_word != "still":
            return ("open", self.own_word, self.rounds_done)
        model = closure_model(self.own_signs, self.closure)
        if any([rows_many(model[0], letters_of(left)) > MOST_ROWS for left, right in self.own_rules]):
            return ("open", "wide", self.rounds_done)
        if not all([rule_holds(self.own_signs, model, rule) for rule in self.own_rules]):
            return ("open", "torn", self.rounds_done)
        return ("unlike", model)

    def __len__(self):
        return len(self.closure.ranked)

    def __str__(self):
        return f"Rounds {self.own_word} after {self.rounds_done}, {len(self.closure.ranked)} terms"
