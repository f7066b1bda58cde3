"""core and is_core: givens of which none can be left out, with a paper for it."""

import random
import unittest

from helper import A, B, C_SIGNS, F, G, H, NO_GIVENS, NO_SIGNS, NO_TERMS, SIGNS, BookCase, Case, book_of, chain, chain_b
from helper import drawn_pairs, full_book, is_number, odd_things, otherwise, slow_labels, slow_model, slow_pairs
from helper import slow_worth, state
from likenest import errors
from likenest.books import Book
from likenest.cores import core, is_core

# With signs a, b, c, d, g, f: c = a follows by the last given, or by both others.
THREE = (((0,), (1,)), ((1,), (2,)), ((2,), (0,)))
C, D = (2,), (3,)


def slow_alike(signs, givens, numbers, one, other):
    labels = slow_labels(signs, [givens[number] for number in numbers], (one, other))
    return labels[one] == labels[other]


def slow_numbers(signs, givens, one, other):
    """The numbers of the core, by the words of the document."""
    numbers = list(range(len(givens)))
    for number in reversed(range(len(givens))):
        left = [kept for kept in numbers if kept != number]
        if slow_alike(signs, givens, left, one, other):
            numbers = left
    return tuple(numbers)


def slow_paper(signs, givens, one, other, thing):
    """Whether it is a paper for the two terms, of anything: rule by rule."""
    if type(thing) is not tuple or len(thing) != 3:
        return False
    numbers, lines, models = thing
    if type(numbers) is not tuple or not all(is_number(number) and number in range(len(givens)) for number in numbers):
        return False
    if list(numbers) != sorted(set(numbers)):
        return False
    pairs = slow_pairs((signs, givens, ()), lines)
    if pairs is None or pairs[-1] != (one, other):
        return False
    if not {line[1] for line in lines if line[0] == "given"} <= set(numbers):
        return False
    if type(models) is not tuple or len(models) != len(numbers):
        return False
    for number, model in zip(numbers, models):
        if not slow_model(signs, model) or slow_worth(signs, model, one) == slow_worth(signs, model, other):
            return False
        for left, right in [givens[kept] for kept in numbers if kept != number]:
            if slow_worth(signs, model, left) != slow_worth(signs, model, right):
                return False
    return True


class CoreCase(BookCase):
    def paper(self, book, one, other, numbers):
        """The paper of the core of these numbers is one; the book stays as it was."""
        before, twin = state(book), book.twin()
        told = core(book, one, other)
        self.assertEqual((type(told), len(told), told[0]), (tuple, 3, numbers))
        self.assertTrue(slow_paper(book.signs(), book.givens(), one, other, told), told)
        self.assertIs(is_core(book.signs(), book.givens(), one, other, told), True)
        self.assertEqual({line[1] for line in told[1] if line[0] == "given"}, set(numbers))
        self.assertEqual(core(book, one, other), told)
        self.assertEqual(state(book), before)
        self.assertTrue(book == twin)
        return told


class Core(CoreCase):
    def test_a_term_and_itself(self):
        for term in ((A,), (G, A), (F, A, B), chain(30)):
            for book in (Book(SIGNS), full_book(), book_of([((A,), (B,)), ((G, A), (A,))])):
                self.assertEqual(self.paper(book, term, term, ()), ((), (("self", term),), ()))

    def test_one_given(self):
        book = book_of([((G, A), (B,)), ((A,), (B,))])
        self.assertEqual(self.paper(book, (G, A), (B,), (0,))[1], (("given", 0),))
        self.assertEqual(self.paper(book, (B,), (A,), (1,))[1], (("given", 1), ("turned", 0)))
        self.paper(book, (G, B), (G, A), (1,))
        self.paper(book, (G, A), (A,), (0, 1))

    def test_from_the_last_on_to_the_first(self):
        book = book_of(THREE, C_SIGNS)
        self.paper(book, (0,), C, (0, 1))
        self.paper(book, C, (0,), (0, 1))
        self.paper(book, (0,), (1,), (0,))
        self.paper(book, (1,), C, (1,))
        turned = book_of(THREE[::-1], C_SIGNS)
        self.paper(turned, C, (0,), (0,))
        self.paper(turned, (0,), (1,), (0, 1))

    def test_a_given_told_twice(self):
        book = book_of([((A,), (B,)), ((G, A), (A,)), ((A,), (B,)), ((B,), (A,))])
        self.paper(book, (A,), (B,), (0,))
        self.paper(book, (G, B), (B,), (0, 1))
        book = book_of([((G, A), (A,)), ((B,), (A,)), ((A,), (B,))])
        self.paper(book, (A,), (B,), (1,))

    def test_a_given_of_one_term_twice(self):
        book = book_of([((A,), (A,)), ((A,), (B,)), ((B,), (B,))])
        self.paper(book, (A,), (B,), (1,))
        self.paper(book, (G, A), (G, A), ())

    def test_terms_that_are_not_known(self):
        book = book_of([((A,), (B,)), ((G, A), (A,))])
        self.paper(book, (H, A, B, G, A), (H, B, A, B), (0, 1))
        self.paper(book, chain(30), chain_b(30), (0,))
        self.paper(book, chain(30), (A,), (1,))
        self.assertEqual(len(book), 3)

    def test_all_of_twenty_four_givens(self):
        # f(x, y) of five bare signs, one behind the other: no given follows from the others.
        signs = tuple((name, 0) for name in "abcde") + (("f", 2),)
        rows = [(5, one, other) for one in range(5) for other in range(5)]
        book = book_of(list(zip(rows, rows[1:])), signs)
        told = self.paper(book, rows[0], rows[-1], tuple(range(24)))
        self.assertEqual(len(told[2]), 24)
        self.paper(book, rows[20], rows[3], tuple(range(3, 20)))

    def test_one_of_twenty_four_givens(self):
        book = book_of([(chain(many), chain(many + 1)) for many in range(2, 26)])
        self.paper(book, chain(2), chain(26), (0,))
        self.paper(book, chain(26), chain(12), (0,))
        book = book_of([(chain(many), chain(many + 1)) for many in range(25, 1, -1)])
        self.paper(book, chain(26), chain(25), (0,))
        # By given 1 those of given 0 are alike, too.
        self.paper(book, chain(24), chain(26), (1,))

    def test_more_than_forty_terms_together(self):
        book = full_book()
        book.tell((A,), (B,))
        one, other = (F,) + chain(14) + chain(15), (F,) + chain_b(14) + chain_b(15)
        self.paper(book, one, other, (0,))

    def test_unlikes_turn_nothing(self):
        book = book_of([((A,), (B,)), ((B,), (G, B))])
        book.part((A,), (B,))
        self.paper(book, (A,), (G, A), (0, 1))

    def test_with_levels(self):
        book = book_of([((A,), (B,))])
        book.push()
        book.tell((G, A), (A,))
        self.paper(book, (G, B), (A,), (0, 1))
        book.back()
        self.refused(errors.NotAlike, {"one": (G, B), "other": (A,)}, core, book, (G, B), (A,))
        self.paper(book, (G, B), (G, A), (0,))

    def test_drawn_books(self):
        sizes = {}
        for seed in range(120):
            dice = random.Random(seed)
            book = book_of(drawn_pairs(dice, dice.randrange(3, 9), C_SIGNS), C_SIGNS)
            for one, other in list(drawn_pairs(dice, 8, C_SIGNS)) + [(terms[0], terms[-1]) for terms in book.classes()]:
                if slow_alike(C_SIGNS, book.givens(), range(len(book.givens())), one, other):
                    numbers = slow_numbers(C_SIGNS, book.givens(), one, other)
                    self.paper(book, one, other, numbers)
                    sizes[len(numbers)] = sizes.get(len(numbers), 0) + 1
                else:
                    self.unmoved(book, errors.NotAlike, {"one": one, "other": other}, core, book, one, other)
        self.assertGreater(len(sizes), 4)

    def test_by_name(self):
        book = book_of([((A,), (B,))])
        self.assertEqual(core(other=(B,), one=(A,), book=book), core(book, (A,), (B,)))

    def test_refusals_in_their_order(self):
        book = book_of([((A,), (B,))])
        for wrong in NO_TERMS + odd_things():
            for fine in ((A,), (G, A), chain(30)):
                self.unmoved(book, errors.NoTerm, {"at": 0}, core, book, wrong, fine)
                self.unmoved(book, errors.NoTerm, {"at": 1}, core, book, fine, wrong)
            self.unmoved(book, errors.NoTerm, {"at": 0}, core, book, wrong, None)
        for one, other in (((A,), (G, A)), ((G, A), (A,)), (chain(30), chain(29)), ((H, A, A, A), (F, A, A))):
            self.unmoved(book, errors.NotAlike, {"one": one, "other": other}, core, book, one, other)
        self.refused(errors.NotAlike, {"one": (A,), "other": (B,)}, core, Book(SIGNS), (A,), (B,))


# Models of C_SIGNS with a, b, c, d worth the four numbers, and all else 9.
def worths(*told):
    return (10, 9, tuple((((), number),) for number in told) + ((), ()))


LINES = (("given", 0), ("given", 1), ("joined", 0, 1))
PAPER = ((0, 1), LINES, (worths(0, 1, 1, 0), worths(0, 0, 1, 0)))


class IsCore(Case):
    def yes(self, thing, givens=THREE, one=(0,), other=C):
        self.assertTrue(slow_paper(C_SIGNS, givens, one, other, thing))
        self.assertIs(is_core(C_SIGNS, givens, one, other, thing), True)

    def no(self, thing, givens=THREE, one=(0,), other=C):
        self.assertFalse(slow_paper(C_SIGNS, givens, one, other, thing))
        self.assertIs(is_core(C_SIGNS, givens, one, other, thing), False)

    def test_papers_of_a_core_and_of_other_numbers(self):
        self.yes(PAPER)
        self.yes(((2,), (("given", 2), ("turned", 0)), (worths(0, 0, 1, 0),)))
        self.yes(((2,), (("given", 2), ("turned", 0)), (worths(0, 1, 2, 3),)))
        self.assertIs(is_core(thing=PAPER, other=C, one=(0,), givens=THREE, signs=C_SIGNS), True)

    def test_lines_need_not_be_lean(self):
        self.yes((PAPER[0], (("self", D), ("given", 1)) + tuple([("given", 0), ("given", 1), ("joined", 2, 3)]), PAPER[2]))

    def test_lines_that_name_another_given(self):
        self.no(((0, 1), (("given", 2), ("turned", 0)), PAPER[2]))
        self.no(((0, 1), (("given", 2), ("given", 0), ("given", 1), ("joined", 1, 2)), PAPER[2]))
        self.no(((0,), LINES, PAPER[2][:1]))
        self.no(((), LINES, ()))
        self.no(((2,), LINES, (worths(0, 0, 1, 0),)))

    def test_lines_that_lead_elsewhere(self):
        self.no((PAPER[0], LINES[:2], PAPER[2]))
        self.no((PAPER[0], LINES + (("turned", 2),), PAPER[2]))
        self.no(PAPER, THREE, C, (0,))
        self.no(PAPER, THREE, (0,), (1,))
        self.no((PAPER[0], (), PAPER[2]))
        self.no((PAPER[0], list(LINES), PAPER[2]))
        self.no((PAPER[0], (("rule", 0, ()),), PAPER[2]))

    def test_numbers(self):
        for numbers in ((1, 0), (0, 0), (0, 0, 1), (0, 1, 1), [0, 1], (False, True), (0, True), (0, 3), (-1, 1), (-3, 1),
                        (0, 1, None), ("0", 1), {0: 0, 1: 1}, None, 2, "01", ((0, 1),), (0, 10 ** 39)):
            for models in (PAPER[2], PAPER[2] + PAPER[2][:1], ()):
                self.no((numbers, LINES, models))

    def test_numbers_that_do_not_rise_with_a_model_for_each(self):
        first, second = PAPER[2]
        self.no(((1, 0), LINES, (second, first)))
        self.no(((0, 0, 1), LINES, (first, first, second)))
        self.no(((0, 1, 1), LINES, (first, second, second)))
        self.no(((0, 1, 0), LINES, (first, second, first)))

    def test_none_can_be_left_out(self):
        for model in (worths(0, 1, 1, 0), worths(0, 0, 1, 0), worths(0, 0, 0, 0), worths(0, 1, 2, 3)):
            self.no(((0, 1, 2), LINES, PAPER[2] + (model,)))
            self.no(((0, 1, 2), LINES, (model,) + PAPER[2]))

    def test_models(self):
        first, second = PAPER[2]
        for models in ((), (first,), (second,), (second, first), (first, first), (second, second), (first, second, first),
                       [first, second], (first, None), (None, second), (list(first), second), first, None,
                       (worths(0, 1, 2, 0), second), (first, worths(0, 1, 2, 3)), (worths(0, 0, 0, 0), second),
                       (first, worths(0, 0, 0, 0)), {0: first, 1: second}):
            self.no((PAPER[0], LINES, models))

    def test_models_of_the_other_ones_alone(self):
        # In each model the given that is left out may hold or not, and what is no number of the paper may, too.
        givens = THREE[:2] + (((0,), D),)
        self.yes(PAPER, givens)
        self.yes((PAPER[0], LINES, (worths(0, 1, 1, 5), worths(0, 0, 1, 5))), givens)
        self.no((PAPER[0], LINES, (worths(0, 1, 1, 5), worths(0, 2, 1, 5))), givens)

    def test_of_a_term_and_itself(self):
        self.yes(((), (("self", C),), ()), THREE, C, C)
        self.yes(((), (("self", C),), ()), (), C, C)
        self.yes(((), (("self", (0,)), ("self", C)), ()), (), C, C)
        self.no(((), (("self", (0,)),), ()), THREE, C, C)
        self.no(((), (("self", C),), (worths(0, 1, 2, 3),)), THREE, C, C)
        self.no(((0,), (("self", C),), ()), THREE, C, C)
        self.no(((0,), (("self", C),), (worths(0, 1, 2, 3),)), THREE, C, C)
        self.no(((0,), (("self", C),), (worths(0, 0, 0, 0),)), THREE, C, C)

    def test_shapes(self):
        for thing in (PAPER[:2], PAPER + ((),), list(PAPER), PAPER[::-1], (PAPER,), (), None, 0, "abc", {}):
            self.no(thing)

    def test_one_thing_otherwise_at_any_depth(self):
        told = []
        book = book_of([((4, 0), (1,)), ((5, 0, 1), (0,)), ((0,), (1,))], C_SIGNS)
        one, other = (5, 0, 4, 1), (4, 1)
        for paper, givens, pair in ((PAPER, THREE, ((0,), C)), (core(book, one, other), book.givens(), (one, other))):
            for wrong in otherwise(paper):
                told.append(slow_paper(C_SIGNS, givens, *pair, wrong))
                self.assertIs(is_core(C_SIGNS, givens, *pair, wrong), told[-1], wrong)
        self.assertGreater(told.count(False), 500)
        self.assertGreater(told.count(True), 5)

    def test_anything(self):
        for thing in odd_things():
            self.no(thing)
            for place in range(3):
                self.no(PAPER[:place] + (thing,) + PAPER[place + 1:])
            numbers = (0, thing) if type(thing) is not int or thing != 1 else (0, thing, thing)
            self.no((numbers, LINES, PAPER[2]))
            self.no((PAPER[0], LINES[:2] + (thing,), PAPER[2]))
            self.no((PAPER[0], LINES, (thing, PAPER[2][1])))

    def test_sixty_givens(self):
        givens = (((0,), (0,)),) * 57 + THREE
        lines = (("given", 57), ("given", 58), ("joined", 0, 1))
        self.yes(((57, 58), lines, PAPER[2]), givens)
        self.no(((57, 58), lines, PAPER[2]), givens[:58])
        self.refused(errors.NoGivens, {}, is_core, C_SIGNS, givens + givens[:1], (0,), C, PAPER)

    def test_givens_that_no_book_holds(self):
        signs = tuple((name, 0) for name in "abcdefg") + (("h", 2),)
        rows = [(7, one, other) for one in range(7) for other in range(7)]
        givens = tuple(zip(rows, rows[1:]))
        lines = tuple(("given", number) for number in range(48)) + (("joined", 0, 1),)
        lines += tuple(("joined", 46 + number, number) for number in range(2, 48))
        models = []
        for number in range(48):
            table = [((one, other), 0 if one * 7 + other <= number else 1) for one in range(7) for other in range(7)]
            models.append((9, 8, tuple((((), one),) for one in range(7)) + (tuple(table),)))
        paper = (tuple(range(48)), lines, tuple(models))
        self.assertTrue(slow_paper(signs, givens, rows[0], rows[-1], paper))
        self.assertIs(is_core(signs, givens, rows[0], rows[-1], paper), True)
        self.assertIs(is_core(signs, givens, rows[0], rows[-1], paper[:2] + (tuple(models[::-1]),)), False)

    def test_refusals_in_their_order(self):
        for signs in NO_SIGNS + odd_things():
            self.refused(errors.NoSigns, {}, is_core, signs, (), (0,), (0,), None)
            self.refused(errors.NoSigns, {}, is_core, signs, None, None, None, PAPER)
        for givens in NO_GIVENS + odd_things():
            if givens != ():
                self.refused(errors.NoGivens, {}, is_core, SIGNS, givens, (A,), (B,), None)
                self.refused(errors.NoGivens, {}, is_core, SIGNS, givens, None, None, None)
        for wrong in NO_TERMS + odd_things():
            for thing in (PAPER, None):
                self.refused(errors.NoTerm, {"at": 0}, is_core, SIGNS, (), wrong, (A,), thing)
                self.refused(errors.NoTerm, {"at": 0}, is_core, SIGNS, (), wrong, wrong, thing)
                self.refused(errors.NoTerm, {"at": 1}, is_core, SIGNS, (), (A,), wrong, thing)


if __name__ == "__main__":
    unittest.main()
