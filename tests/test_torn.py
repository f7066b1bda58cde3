"""torn and pops: which unlike is alike, by which lines, and how many levels are to be taken back."""

import random
import unittest

from helper import A, B, C_SIGNS, F, G, SIGNS, BookCase, are_lean, book_of, chain, chain_b, drawn_pairs, full_book
from helper import slow_labels, slow_pairs, slow_worth, state
from likenest.books import Book
from likenest.lines import are_lines_for
from likenest.models import is_model, model_of
from likenest.torn import pops, torn


def slow_torn(book):
    """The number of the first unlike whose two are alike, None where there is none."""
    labels = slow_labels(book.signs(), book.givens(), book.known())
    for number, (one, other) in enumerate(book.unlikes()):
        if labels[one] == labels[other]:
            return number
    return None


def slow_pops(book):
    """All numbers of levels are tried, each in a twin of its own."""
    for levels in range(book.levels() + 1):
        trial = book.twin()
        if levels:
            trial.back(levels)
        if slow_torn(trial) is None:
            return levels
    return None


class TornCase(BookCase):
    def told(self, book, number, levels):
        """The book is torn at that number (None: it isn't), so many levels are to be taken back; it stays as it was."""
        before, twin = state(book), book.twin()
        paper = torn(book)
        taken = pops(book)
        self.assertEqual((type(taken), taken), (type(levels), levels))
        if number is None:
            self.assertIsNone(paper)
            self.assertIs(is_model(book.signs(), book.givens(), model_of(book), unlikes=book.unlikes()), True)
            for one, other in book.unlikes():
                self.assertNotEqual(*[slow_worth(book.signs(), model_of(book), term) for term in (one, other)])
        else:
            self.assertEqual((type(paper), len(paper), type(paper[0]), paper[0]), (tuple, 2, int, number))
            grounds = (book.signs(), book.givens(), ())
            self.assertEqual(slow_pairs(grounds, paper[1])[-1], book.unlikes()[number])
            self.assertTrue(are_lean(grounds, paper[1]))
            self.assertIs(are_lines_for(book.signs(), book.givens(), paper[1], *book.unlikes()[number]), True)
        self.assertEqual((torn(book), pops(book)), (paper, taken))
        self.assertEqual(state(book), before)
        self.assertTrue(book == twin)


class Torn(TornCase):
    def test_without_unlikes(self):
        self.told(Book(SIGNS), None, 0)
        self.told(book_of([((A,), (B,)), ((A,), (A,))]), None, 0)
        book = full_book()
        book.tell((A,), (B,))
        book.push()
        self.told(book, None, 0)

    def test_a_term_that_is_unlike_itself(self):
        book = Book(SIGNS)
        book.part((G, A), (G, A))
        self.told(book, 0, None)
        self.assertEqual(torn(book), (0, (("self", (G, A)),)))

    def test_unlikes_that_stand(self):
        book = book_of([((G, A), (A,))])
        for one, other in (((A,), (B,)), ((G, B), (A,)), ((F, A, B), (F, B, A))):
            book.part(one, other)
        self.told(book, None, 0)

    def test_the_least_number(self):
        book = book_of([((A,), (B,))])
        book.part((A,), (G, A))
        book.part((F, A, A), (F, A, B))
        book.part((A,), (B,))
        self.told(book, 1, None)
        book.tell((G, B), (B,))
        self.told(book, 0, None)

    def test_the_given_turned_about(self):
        book = book_of([((A,), (B,))])
        book.part((B,), (A,))
        self.told(book, 0, None)
        self.assertEqual(torn(book), (0, (("given", 0), ("turned", 0))))

    def test_the_same_unlike_twice(self):
        book = book_of([((A,), (B,))])
        book.part((A,), (G, A))
        book.part((B,), (A,))
        book.part((B,), (A,))
        self.told(book, 1, None)

    def test_unlikes_alone_are_not_torn(self):
        book = Book(SIGNS)
        for one, other in (((A,), (B,)), ((A,), (B,)), ((B,), (A,)), ((G, A), (G, B))):
            book.part(one, other)
        self.told(book, None, 0)

    def test_by_parts_alone(self):
        book = Book(SIGNS)
        book.part(chain(15), chain_b(15))
        self.told(book, None, 0)
        book.push()
        book.tell((A,), (B,))
        self.told(book, 0, 1)

    def test_twelve_unlikes(self):
        book = Book(SIGNS)
        for many in range(2, 14):
            book.part(chain(many), chain_b(many))
        book.tell(chain(13), chain_b(13))
        self.told(book, 11, None)
        book.tell(chain(3), chain_b(3))
        self.told(book, 1, None)


class Pops(TornCase):
    def test_torn_without_levels(self):
        book = book_of([((A,), (B,))])
        book.part((A,), (B,))
        self.told(book, 0, None)

    def test_torn_ahead_of_all_levels(self):
        book = book_of([((A,), (B,))])
        book.part((A,), (B,))
        for levels in range(1, 4):
            book.push()
            self.told(book, 0, None)

    def test_each_of_twelve_levels(self):
        for at in range(13):
            book = Book(SIGNS)
            book.part((A,), (B,))
            for level in range(13):
                if level == at:
                    book.tell((A,), (B,))
                if level < 12:
                    book.push()
            self.assertEqual(book.levels(), 12)
            self.told(book, 0, 13 - at if at else None)

    def test_twelve_levels_that_are_not_torn(self):
        book = book_of([((A,), (B,))])
        for level in range(12):
            book.push()
            book.part((A,), chain(level + 2))
        self.told(book, None, 0)

    def test_the_unlike_in_a_level(self):
        book = book_of([((A,), (B,))])
        book.push()
        book.push()
        book.part((A,), (B,))
        book.push()
        self.told(book, 0, 2)
        book.back(2)
        self.told(book, None, 0)

    def test_torn_twice(self):
        book = Book(SIGNS)
        book.part((A,), (B,))
        book.push()
        book.part((B,), (G, B))
        book.push()
        book.tell((A,), (B,))
        book.push()
        book.tell((G, A), (A,))
        self.told(book, 0, 2)
        book.back()
        self.told(book, 0, 1)
        book.tell((G, B), (A,))
        self.told(book, 0, 1)

    def test_what_is_told_holds(self):
        book = Book(SIGNS)
        book.push()
        book.part((A,), (B,))
        book.push()
        book.tell((G, A), (G, B))
        book.push()
        book.tell((G, A), (A,))
        book.tell((G, B), (B,))
        book.push()
        levels = pops(book)
        self.assertEqual(levels, 2)
        for fewer in range(1, levels + 1):
            trial = book.twin()
            trial.back(fewer)
            self.assertIs(torn(trial) is None, fewer == levels)

    def test_drawn_books(self):
        seen = set()
        for seed in range(150):
            dice = random.Random(seed)
            book = Book(C_SIGNS)
            for turn in range(dice.randrange(1, 9)):
                (one, other), = drawn_pairs(dice, 1, C_SIGNS)
                dice.choice((book.tell, book.part))(one, other)
                if dice.randrange(3):
                    book.push()
            number, levels = slow_torn(book), slow_pops(book)
            self.told(book, number, levels)
            seen.add((number is None, levels))
        self.assertGreater(len(seen), 4)

    def test_by_name(self):
        self.assertIsNone(torn(book=Book(SIGNS)))
        self.assertEqual(pops(book=Book(SIGNS)), 0)


if __name__ == "__main__":
    unittest.main()
