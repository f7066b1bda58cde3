"""lines_for and answer: one of two papers for each question, and never both."""

import random
import unittest

from helper import A, B, C_SIGNS, F, G, H, NO_TERMS, SIGNS, BookCase, are_lean, book_of, chain, chain_b, drawn_pairs
from helper import drawn_term, full_book, odd_things, slow_labels, slow_pairs, slow_worth, state
from likenest.books import Book
from likenest import errors
from likenest.lines import are_lines_for, leaned, led, lines_for
from likenest.models import answer, is_model, model_of


class PaperCase(BookCase):
    def papers(self, book, one, other, alike):
        """Both papers for a question are what they must be, looked through twice: by the program, and slowly."""
        signs, givens = book.signs(), book.givens()
        lines = lines_for(book, one, other)
        told = answer(book, one, other)
        self.assertIs(type(told), tuple)
        self.assertEqual(len(told), 2)
        self.assertEqual(told[0], "alike" if alike else "unlike")
        self.assertIs(book.alike(one, other), alike)
        if alike:
            for paper in (lines, told[1]):
                self.assertIs(are_lines_for(signs, givens, paper, one, other), True)
                self.assertEqual(slow_pairs((signs, givens, ()), paper)[-1], (one, other))
                self.assertTrue(are_lean((signs, givens, ()), paper))
                self.assertEqual(leaned(signs, givens, paper), paper)
                self.assertLessEqual({line[1] for line in paper if line[0] == "given"}, set(range(len(givens))))
        else:
            self.assertIsNone(lines)
            self.assertIs(is_model(signs, givens, told[1], unlikes=((one, other),)), True)
            self.assertNotEqual(slow_worth(signs, told[1], one), slow_worth(signs, told[1], other))
            for left, right in givens:
                self.assertEqual(slow_worth(signs, told[1], left), slow_worth(signs, told[1], right))
        return lines

    def asked(self, book, terms):
        """All two of these terms are asked."""
        labels = slow_labels(book.signs(), book.givens(), terms)
        for one in terms:
            for other in terms:
                self.papers(book, one, other, labels[one] == labels[other])


class Papers(PaperCase):
    def test_of_an_empty_book(self):
        book = Book(SIGNS)
        self.assertEqual(lines_for(book, (A,), (A,)), (("self", (A,)),))
        self.assertEqual(lines_for(book, chain(30), chain(30)), (("self", chain(30)),))
        self.asked(book, [(A,), (B,), (G, A), (F, A, B), (F, B, A), chain(30)])
        self.assertEqual(len(book), 0)

    def test_by_hand(self):
        book = book_of([((A,), (B,)), ((G, A), (A,)), ((F, A, B), (G, G, B))])
        self.asked(book, [(A,), (B,), (G, A), (G, B), (F, A, A), (F, G, A, B), (G, G, G, B), (H, A, B, A), (H, B, B, G, B)])

    def test_a_given_and_a_given_turned(self):
        book = book_of([((G, A), (B,))])
        self.assertEqual(lines_for(book, (G, A), (B,)), (("given", 0),))
        self.assertEqual(lines_for(book, (B,), (G, A)), (("given", 0), ("turned", 0)))

    def test_twelve_givens_joined(self):
        book = book_of([(chain(place), chain(place + 1)) for place in range(2, 14)])
        self.papers(book, chain(2), chain(14), True)
        self.papers(book, chain(14), chain(2), True)
        self.papers(book, chain(1), chain(14), False)

    def test_of_thirty_numbers(self):
        book = book_of([((G,) * 5 + (A,), (A,)), ((G,) * 3 + (A,), (A,)), ((B,), (A,))])
        self.papers(book, chain(30), chain_b(29), True)
        self.papers(book, chain_b(30), (A,), True)
        one, other = (F,) + chain(14) + chain(15), (F,) + chain_b(12) + chain_b(17)
        self.papers(book, one, other, True)
        self.papers(book, one, chain(30), False)

    def test_more_than_forty_terms_together(self):
        book = full_book()
        book.tell((A,), (B,))
        before = state(book)
        one, other = (F,) + chain(14) + chain(15), (F,) + chain_b(14) + chain_b(15)
        self.papers(book, one, other, True)
        self.papers(book, one, (F,) + chain_b(15) + chain_b(14), False)
        word, model = answer(book, (H,) + chain(9) + chain(10) + chain_b(10), (H,) + chain_b(10) + chain(10) + chain(9))
        self.assertEqual((word, model[0]), ("unlike", 33))
        word, model = answer(full_book(), (H,) + chain(9) + chain(10) + chain_b(10), (F,) + chain_b(14) + chain_b(15))
        self.assertEqual((word, model[0]), ("unlike", 48))
        self.assertEqual(state(book), before)

    def test_unlikes_turn_nothing(self):
        book = book_of([((A,), (B,))])
        book.part((A,), (B,))
        book.part((G, A), (G, B))
        self.asked(book, [(A,), (B,), (G, A), (G, B), (F, A, B), (F, B, A), (G, G, A)])

    def test_the_model_is_that_of_the_book_with_both_known(self):
        book = book_of([((G, A), (A,)), ((F, A, B), (B,))])
        for one, other in (((A,), (B,)), ((G, B), (A,)), ((F, A, A), (G, G, B)), ((H, A, B, A), (F, G, A, B))):
            with_both = book.twin()
            with_both.know(one)
            with_both.know(other)
            self.assertEqual(answer(book, one, other), ("unlike", model_of(with_both)))
            self.assertEqual(answer(other=other, one=one, book=book), ("unlike", model_of(with_both)))

    def test_what_lines_show_holds_in_each_model(self):
        for seed in range(30):
            dice = random.Random(seed)
            book = book_of(drawn_pairs(dice, 4, C_SIGNS), C_SIGNS)
            larger = book.twin()
            for one, other in drawn_pairs(dice, 2, C_SIGNS):
                larger.tell(one, other)
            models = [model_of(book), model_of(larger), model_of(Book(C_SIGNS))]
            models += [told[1] for told in [answer(book, one, other) for one, other in drawn_pairs(dice, 4, C_SIGNS)]
                       if told[0] == "unlike"]
            for one, other in drawn_pairs(dice, 12, C_SIGNS):
                lines = lines_for(book, one, other)
                for model in models if lines is not None else []:
                    self.assertIs(is_model(C_SIGNS, book.givens(), model), True)
                    self.assertEqual(slow_worth(C_SIGNS, model, one), slow_worth(C_SIGNS, model, other))

    def test_by_name(self):
        book = book_of([((A,), (B,))])
        self.assertEqual(lines_for(other=(B,), book=book, one=(A,)), (("given", 0),))
        self.assertEqual(answer(other=(B,), book=book, one=(A,)), ("alike", (("given", 0),)))

    def test_no_term(self):
        book = full_book()
        for wrong in NO_TERMS + odd_things():
            for function in (lines_for, answer):
                self.unmoved(book, errors.NoTerm, {"at": 0}, function, book, wrong, (A,))
                self.unmoved(book, errors.NoTerm, {"at": 1}, function, book, (A,), wrong)
                self.unmoved(book, errors.NoTerm, {"at": 0}, function, book, wrong, wrong)


class Drawn(PaperCase):
    def test_drawn_books(self):
        for seed in range(100):
            dice = random.Random(seed)
            signs = (SIGNS, C_SIGNS)[seed % 2]
            book = book_of(drawn_pairs(dice, dice.randrange(0, 8), signs), signs)
            before, twin = state(book), book.twin()
            known = dice.sample(book.known(), min(3, len(book)))
            self.asked(book, known + [drawn_term(dice, signs, 3, 9) for term in range(3)])
            self.assertEqual(state(book), before)
            self.assertTrue(book == twin)

    def test_many_deep_givens(self):
        for seed in range(12):
            dice = random.Random(seed)
            book = book_of([(drawn_term(dice, C_SIGNS, 4, 8), drawn_term(dice, C_SIGNS, 2)) for given in range(6)], C_SIGNS)
            self.asked(book, dice.sample(book.known(), 4) + [drawn_term(dice, C_SIGNS, 4, 12) for term in range(2)])

    def test_behind_levels_taken_back(self):
        for seed in range(40):
            dice = random.Random(seed)
            book = book_of(drawn_pairs(dice, 2, C_SIGNS), C_SIGNS)
            asked = [drawn_term(dice, C_SIGNS) for term in range(3)]
            kept = book.twin()
            for turn in range(3):
                book.push()
                for one, other in drawn_pairs(dice, 2, C_SIGNS):
                    book.tell(one, other)
            self.asked(book, asked)
            book.back(3)
            self.assertEqual(len(book.givens()), 2)
            self.asked(book, asked + book.known()[:2])
            for one in asked:
                for other in asked:
                    self.assertEqual(lines_for(book, one, other) is None, lines_for(kept, one, other) is None)
                    self.assertEqual(answer(book, one, other)[0], answer(kept, one, other)[0])
                    self.assertIn(led(C_SIGNS, kept.givens(), lines_for(book, one, other)), (None, (one, other)))


if __name__ == "__main__":
    unittest.main()
