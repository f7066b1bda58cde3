"""Point 3, over the whole program: in whatever order givens were told, and whatever was taken back, all is as it is."""

import random
import unittest

from helper import C_SIGNS, BookCase, drawn_pairs, drawn_term, slow_model, slow_pairs, slow_worth, state
from likenest.books import Book
from likenest.compared import compared
from likenest.cores import core, is_core
from likenest.least import are_potentials, least, potentials
from likenest.lines import are_lines_for, lines_for
from likenest.models import answer, is_model, model_of
from likenest.patterns import matches
from likenest.rounds import Rounds
from likenest.torn import pops, torn

RULES = (((5, -1, -2), (5, -2, -1)), ((4, 4, -1), (4, -1)))
PATTERNS = ((-1,), (4, -1), (5, -1, -2), (5, -1, -1), (5, 4, -1, -2), (0,))
COSTS = (None, (9, 3, 1, 99, 1, 2))


def detour(book, dice):
    """A level is pushed, much is told in it, and it is taken back."""
    book.push()
    for one, other in drawn_pairs(dice, 3, C_SIGNS):
        book.tell(one, other)
    if dice.randrange(2):
        book.push()
        book.part((0,), (0,))
        book.know((4, 4, 4, 0))
        book.back(2)
    else:
        book.back()


def rounds_of(book):
    rounds = Rounds(book, RULES)
    rounds.go_on(4)
    return rounds


def told_by_classes(book):
    """What hangs on the known terms and their classes alone."""
    rounds = rounds_of(book)
    nests = [(matches(nest, pattern), potentials(nest, costs=costs), [least(nest, term, costs=costs) for term in nest.known()])
             for nest in (book, rounds) for pattern in PATTERNS for costs in COSTS]
    return book.known(), book.classes(), model_of(book), str(rounds), rounds.classes(), nests


class Whole(BookCase):
    def drawn(self, seed):
        dice = random.Random(seed)
        return dice, drawn_pairs(dice, dice.randrange(1, 6), C_SIGNS), drawn_pairs(dice, dice.randrange(3), C_SIGNS)

    def book_of(self, givens, unlikes):
        book = Book(C_SIGNS)
        for one, other in givens:
            book.tell(one, other)
        for one, other in unlikes:
            book.part(one, other)
        return book

    def test_what_was_taken_back_was_never_told(self):
        for seed in range(40):
            dice, givens, unlikes = self.drawn(seed)
            plain, other = self.book_of(givens, unlikes), Book(C_SIGNS)
            for one, another in givens:
                detour(other, dice)
                other.tell(one, another)
            for one, another in unlikes:
                detour(other, dice)
                other.part(one, another)
            detour(other, dice)
            self.assertTrue(plain == other)
            self.assertEqual(state(plain), state(other))
            self.assertEqual(told_by_classes(plain), told_by_classes(other))
            self.assertEqual((torn(plain), pops(plain)), (torn(other), pops(other)))
            for turn in range(6):
                one, another = drawn_term(dice, C_SIGNS), drawn_term(dice, C_SIGNS)
                self.assertEqual(answer(plain, one, another), answer(other, one, another))
                if plain.alike(one, another):
                    self.assertEqual(core(plain, one, another), core(other, one, another))

    def test_in_whatever_order_and_however_often(self):
        for seed in range(40):
            dice, givens, unlikes = self.drawn(seed)
            plain = self.book_of(givens, unlikes)
            mixed = [dice.choice((pair, pair[::-1])) for pair in givens + givens[:3]]
            dice.shuffle(mixed)
            other = self.book_of(mixed, unlikes)
            self.assertEqual(told_by_classes(plain), told_by_classes(other))
            self.assertEqual(compared(plain, other)[0], "same")
            for found in (torn(plain), torn(other)):
                self.assertEqual(found is None, torn(plain) is None)
                self.assertEqual(found and found[0], torn(plain) and torn(plain)[0])
            for turn in range(8):
                one, another = drawn_term(dice, C_SIGNS), drawn_term(dice, C_SIGNS)
                told = answer(plain, one, another), answer(other, one, another)
                self.assertEqual(told[0][0], told[1][0])
                if told[0][0] == "unlike":
                    self.assertEqual(told[0], told[1])

    def test_one_of_two_answers_and_all_papers_look_right(self):
        seen = set()
        for seed in range(40):
            dice, givens, unlikes = self.drawn(seed)
            book = self.book_of(givens, unlikes)
            rounds = rounds_of(book)
            self.papers_of_the_book(book)
            terms = dice.sample(rounds.known(), min(6, len(rounds)))
            for one in terms:
                for other in terms:
                    word, *paper = rounds.answer(one, other)
                    seen.add(word)
                    if word == "alike":
                        self.assertEqual(slow_pairs((C_SIGNS, givens, RULES), paper[0])[-1], (one, other))
                    if word == "unlike":
                        # What is unlike by rounds is unlike by the givens alone, and all lines hold in the model.
                        self.assertIs(book.alike(one, other), False)
                        self.assertIs(is_model(C_SIGNS, givens, paper[0], unlikes=((one, other),)), True)
                        for classes in (book.classes(), rounds.classes()):
                            for row in classes:
                                self.assertEqual(len({slow_worth(C_SIGNS, paper[0], term) for term in row}), 1)
                    if book.alike(one, other):
                        self.assertEqual(word, "alike")
                        self.assertIs(are_lines_for(C_SIGNS, givens, lines_for(book, one, other), one, other), True)
                        self.assertIs(is_core(C_SIGNS, givens, one, other, core(book, one, other)), True)
        self.assertEqual(seen, {"alike", "unlike", "open"})

    def papers_of_the_book(self, book):
        """One model parts all unlikes, or lines show one to be alike; no known term costs less than the least."""
        found = torn(book)
        if found is None:
            self.assertTrue(slow_model(C_SIGNS, model_of(book)))
            self.assertIs(is_model(C_SIGNS, book.givens(), model_of(book), unlikes=book.unlikes()), True)
        else:
            self.assertEqual(slow_pairs((C_SIGNS, book.givens(), ()), found[1])[-1], book.unlikes()[found[0]])
        for costs in COSTS:
            self.assertIs(are_potentials(book, potentials(book, costs=costs), costs=costs), True)
            for term in book.known():
                self.assertLessEqual(least(book, term, costs=costs)[0], sum((costs or (1,) * 6)[n] for n in term))


if __name__ == "__main__":
    unittest.main()
