"""Books of known terms, givens, unlikes and levels: points 20 to 22 of the document."""

from likenest.closure import closure_of
from likenest.errors import NoGivens, NoLevel, NotKnown, TooMany
from likenest.terms import check_signs, check_term, check_two, gathered, is_pair, is_whole

MOST_KNOWN = 40
MOST_GIVENS = 24
MOST_UNLIKES = 12
MOST_LEVELS = 12


def check_many(many, most):
    """Refuse more than there may be."""
    if many > most:
        raise TooMany(many, most)


def check_trial(signs, pairs):
    """Refuse what is no list of pairs for a trial."""
    if not isinstance(pairs, list) or len(pairs) > MOST_GIVENS:
        raise NoGivens()
    if not all([is_pair(signs, pair) for pair in pairs]):
        raise NoGivens()


class Book:
    """Terms made known, told to be alike and parted, level by level.

    All that stands is kept in tuples, which no deed changes, so a level is what stood when it was pushed.
    """

    def __init__(self, signs):
        check_signs(signs)
        self.own_signs = signs
        self.known_terms = ()
        self.told_pairs = ()
        self.parted_pairs = ()
        self.pushed = ()

    def know(self, term):
        """Make a term known, and its inner terms."""
        check_term(self.own_signs, term)
        self.known_terms = self.known_with((term,))

    def tell(self, one, other):
        """Tell two terms to be alike: the number of this given."""
        check_two(self.own_signs, one, other)
        check_many(len(self.told_pairs) + 1, MOST_GIVENS)
        self.known_terms = self.known_with((one, other))
        self.told_pairs = self.told_pairs + ((one, other),)
        return len(self.told_pairs) - 1

    def part(self, one, other):
        """Tell two terms to be unlike: the number of this unlike."""
        check_two(self.own_signs, one, other)
        check_many(len(self.parted_pairs) + 1, MOST_UNLIKES)
        self.known_terms = self.known_with((one, other))
        self.parted_pairs = self.parted_pairs + ((one, other),)
        return len(self.parted_pairs) - 1

    def known_with(self, terms):
        """What would be known with these terms, in order: a tuple."""
        grown = gathered(self.own_signs, self.known_terms, terms)
        check_many(len(grown), MOST_KNOWN)
        return tuple(grown)

    def push(self):
        """Push a level."""
        check_many(len(self.pushed) + 1, MOST_LEVELS)
        self.pushed = self.pushed + ((self.known_terms, self.told_pairs, self.parted_pairs),)

    def back(self, levels=1):
        """Take so many levels back."""
        if not is_whole(levels) or not 1 <= levels <= len(self.pushed):
            raise NoLevel(len(self.pushed))
        left = len(self.pushed) - levels
        self.known_terms, self.told_pairs, self.parted_pairs = self.pushed[left]
        self.pushed = self.pushed[:left]

    def closed(self, terms):
        """The closure of all known terms and these."""
        return closure_of(self.own_signs, self.known_terms, self.told_pairs, terms)

    def alike(self, one, other):
        """Whether two terms, known or not, are alike."""
        check_two(self.own_signs, one, other)
        return self.closed((one, other)).are_alike(one, other)

    def tried(self, pairs, one, other):
        """Whether two terms are alike with these pairs told, too."""
        check_trial(self.own_signs, pairs)
        check_two(self.own_signs, one, other)
        # A twin takes the deeds of the trial, so that a refusal on the way leaves nothing to be taken back.
        trial = self.twin()
        trial.push()
        for left, right in pairs:
            trial.tell(left, right)
        return trial.alike(one, other)

    def classes(self):
        """The classes of known terms, each in order, by their first ones: a list of lists."""
        return self.closed(()).class_lists()

    def first(self, term):
        """The first one of the class of a known term."""
        check_term(self.own_signs, term)
        if term not in self.known_terms:
            raise NotKnown(term)
        return self.closed(()).first_of(term)

    def known(self):
        """The known terms in order: a list."""
        return list(self.known_terms)

    def givens(self):
        """The givens that stand: a tuple."""
        return self.told_pairs

    def unlikes(self):
        """The unlikes that stand: a tuple."""
        return self.parted_pairs

    def levels(self):
        """How many levels stand."""
        return len(self.pushed)

    def signs(self):
        """The signs that the book is made of."""
        return self.own_signs

    def twin(self):
        """Another book that is equal; neither hangs on the other."""
        made = Book(self.own_signs)
        made.known_terms = self.known_terms
        made.told_pairs = self.told_pairs
        made.parted_pairs = self.parted_pairs
        made.pushed = self.pushed
        return made

    def __len__(self):
        return len(self.known_terms)

    def __eq__(self, other):
        # What a level keeps of givens and unlikes is the head of what stands, so to compare them is to count them.
        return (isinstance(other, Book) and self.own_signs == other.own_signs
                and self.known_terms == other.known_terms and self.told_pairs == other.told_pairs
                and self.parted_pairs == other.parted_pairs and self.pushed == other.pushed)

    def __str__(self):
        return ", ".join([f"Book of {len(self.known_terms)} terms", f"{len(self.told_pairs)} givens",
                          f"{len(self.parted_pairs)} unlikes", f"{len(self.pushed)} levels"])
