"""Which terms are alike: by hand, against a slow closure, and whatever the order of the givens; trials."""

import copy
import itertools
import random
import unittest

from helper import A, B, C_SIGNS, F, G, H, NO_TERMS, SIGNS, BookCase, Case, book_of, chain, chain_b, drawn_pairs
from helper import drawn_term, full_book, inner_terms, odd_things, slow_classes, slow_labels, state
from likenest import errors
from likenest.books import Book


class Alike(Case):
    def yes(self, book, one, other):
        self.assertIs(book.alike(one, other), True, (one, other))
        self.assertIs(book.alike(other, one), True, (other, one))

    def no(self, book, one, other):
        self.assertIs(book.alike(one, other), False, (one, other))
        self.assertIs(book.alike(other, one), False, (other, one))

    def test_of_no_givens(self):
        book = Book(SIGNS)
        self.yes(book, (A,), (A,))
        self.yes(book, chain(30), chain(30))
        self.no(book, (A,), (B,))
        self.no(book, (F, A, B), (F, B, A))

    def test_each_of_the_five_ways(self):
        book = book_of([((A,), (B,)), ((B,), (G, A))])
        self.yes(book, (A,), (B,))
        self.yes(book, (A,), (G, A))
        self.yes(book, (G, A), (G, B))
        self.yes(book, (F, A, B), (F, B, G, G, A))
        self.yes(book, (H, A, B, G, A), (H, B, B, A))
        self.no(book, (F, A, B), (A,))
        self.no(book, (F, A, A), (H, A, A, A))

    def test_parts_place_by_place(self):
        book = book_of([((A,), (G, A))])
        self.yes(book, (F, A, B), (F, G, A, B))
        self.no(book, (F, A, B), (F, B, A))
        self.no(book, (F, A, B), (F, B, G, A))
        self.no(book, (H, A, B, B), (H, B, B, A))

    def test_like_wholes_do_not_make_parts_alike(self):
        book = book_of([((G, A), (G, B)), ((F, A, A), (F, B, B))])
        self.no(book, (A,), (B,))
        self.yes(book, (G, G, A), (G, G, B))
        self.no(book, (F, A, B), (F, B, A))

    def test_long_chains(self):
        book = book_of([((G,) * 5 + (A,), (A,)), ((G,) * 3 + (A,), (A,))])
        self.yes(book, (G, A), (A,))
        self.yes(book, chain(30), (A,))
        self.no(book, chain_b(30), (B,))
        self.no(book, (A,), (B,))
        book = book_of([((G,) * 6 + (A,), (A,)), ((G,) * 4 + (A,), (A,))])
        self.no(book, (G, A), (A,))
        self.yes(book, (G, G, A), (A,))

    def test_unlikes_turn_nothing(self):
        book = book_of([((A,), (B,))])
        book.part((A,), (B,))
        self.yes(book, (A,), (B,))
        book.part((G, A), (A,))
        self.no(book, (G, A), (A,))
        self.assertEqual(book.classes(), [[(A,), (B,)], [(G, A)]])

    def test_more_than_forty_terms_together(self):
        book = full_book()
        book.tell((A,), (B,))
        self.yes(book, (F,) + chain(14) + chain(15), (F,) + chain_b(14) + chain_b(15))
        self.yes(book, chain(30), chain_b(30))
        self.no(book, (F,) + chain(14) + chain(15), (F,) + chain(15) + chain(14))
        self.no(book, chain(30), chain_b(29))
        self.assertEqual(len(book), 40)

    def test_asking_makes_nothing_known(self):
        book = book_of([((A,), (B,))])
        before = state(book)
        book.alike((F, A, A), chain(30))
        book.tried([((G, A), (F, A, A))], (H, A, A, A), (G, G, B))
        book.first((A,))
        self.refused(errors.NotKnown, {"term": (G, A)}, book.first, (G, A))
        self.assertEqual(state(book), before)
        self.assertEqual(book.known(), [(A,), (B,)])

    def test_by_name(self):
        self.assertIs(Book(SIGNS).alike(other=(A,), one=(A,)), True)
        self.assertIs(Book(SIGNS).tried(other=(A,), one=(B,), pairs=[((A,), (B,))]), True)


class Classes(Case):
    def test_in_order(self):
        book = book_of([((F, B, B), (B,)), ((G, B), (A,))])
        self.assertEqual(book.classes(), [[(A,), (G, B)], [(B,), (F, B, B)]])
        book.know((G, F, B, B))
        self.assertEqual(book.classes(), [[(A,), (G, B), (G, F, B, B)], [(B,), (F, B, B)]])

    def test_by_their_first_ones(self):
        book = Book(SIGNS)
        book.know((F, G, A, G, B))
        self.assertEqual(book.classes(), [[(A,)], [(B,)], [(G, A)], [(G, B)], [(F, G, A, G, B)]])
        book.tell((F, G, A, G, B), (B,))
        self.assertEqual(book.classes(), [[(A,)], [(B,), (F, G, A, G, B)], [(G, A)], [(G, B)]])

    def test_kinds(self):
        told = book_of([((A,), (B,))]).classes()
        self.assertIs(type(told), list)
        self.assertEqual({type(terms) for terms in told}, {list})

    def test_first(self):
        book = book_of([((F, B, B), (B,)), ((G, B), (A,)), ((G, A), (G, G, A))])
        for terms in book.classes():
            for term in terms:
                self.assertEqual(book.first(term), terms[0])
                self.assertEqual(book.first(term=term), terms[0])

    def test_first_of_what_is_not_known(self):
        book = book_of([((A,), (G, A))])
        for term in ((B,), (G, G, A), (F, A, A), chain(30)):
            self.refused(errors.NotKnown, {"term": term}, book.first, term)
            self.refused(errors.NotKnown, {"term": term}, Book(SIGNS).first, term)
        book.push()
        book.know((B,))
        self.assertEqual(book.first((B,)), (B,))
        book.back()
        self.refused(errors.NotKnown, {"term": (B,)}, book.first, (B,))
        for wrong in NO_TERMS + odd_things():
            self.refused(errors.NoTerm, {"at": 0}, book.first, wrong)

    def test_lists_are_the_asker_s_own(self):
        book = book_of([((A,), (B,)), ((G, A), (F, A, A))])
        for ask in (book.known, book.classes):
            told, before = ask(), copy.deepcopy(ask())
            self.assertIsNot(ask(), told)
            told[0] = None
            told.clear()
            self.assertEqual(ask(), before)
        told, before = book.classes(), book.classes()
        told[0].append((H, A, A, A))
        told[1].clear()
        self.assertEqual(book.classes(), before)
        self.assertEqual(book.known(), [(A,), (B,), (G, A), (F, A, A)])


class Slowly(Case):
    """Against a closure that holds all terms against all others."""

    def held(self, book, dice, signs):
        """The book's classes, firsts and answers are those of the slow closure, with terms that aren't known, too."""
        classes = slow_classes(signs, book.givens(), book.known())
        self.assertEqual(book.classes(), classes)
        for terms in classes:
            self.assertEqual({book.first(term) for term in terms}, {terms[0]})
        asked = [drawn_term(dice, signs, 3, 12) for term in range(4)] + [dice.choice(book.known()) for term in (0, 1)]
        labels = slow_labels(signs, book.givens(), book.known() + asked)
        for one, other in itertools.product(asked, repeat=2):
            self.assertIs(book.alike(one, other), labels[one] == labels[other])

    def test_drawn_books(self):
        for seed in range(120):
            dice = random.Random(seed)
            signs = (SIGNS, C_SIGNS)[seed % 2]
            book = book_of(drawn_pairs(dice, dice.randrange(1, 7), signs, dice.choice((2, 3))), signs)
            self.held(book, dice, signs)

    def test_with_levels_taken_back(self):
        for seed in range(40):
            dice = random.Random(seed)
            book = book_of(drawn_pairs(dice, 2, C_SIGNS), C_SIGNS)
            for turn in range(6):
                if book.levels() and dice.randrange(2):
                    book.back(dice.randrange(1, book.levels() + 1))
                else:
                    book.push()
                    for one, other in drawn_pairs(dice, 2, C_SIGNS):
                        book.tell(one, other)
                self.held(book, dice, C_SIGNS)

    def test_what_was_taken_back_was_never_told(self):
        for seed in range(40):
            dice = random.Random(seed)
            pairs, gone = drawn_pairs(dice, 4, C_SIGNS), drawn_pairs(dice, 4, C_SIGNS)
            plain, levelled = book_of(pairs, C_SIGNS), Book(C_SIGNS)
            for one, other in pairs:
                levelled.push()
                for left, right in gone:
                    levelled.tell(left, right)
                levelled.back()
                levelled.tell(one, other)
            self.assertEqual(state(levelled), state(plain))
            self.assertTrue(levelled == plain)
            for one, other in drawn_pairs(dice, 6, C_SIGNS):
                self.assertIs(levelled.alike(one, other), plain.alike(one, other))

    def test_in_other_orders_turned_about_and_twice(self):
        for seed in range(40):
            dice = random.Random(seed)
            pairs = list(drawn_pairs(dice, 5, C_SIGNS))
            first = book_of(pairs, C_SIGNS)
            asked = drawn_pairs(dice, 8, C_SIGNS)
            told = [first.alike(one, other) for one, other in asked]
            turned = [(other, one) for one, other in pairs]
            for order in (pairs[::-1], turned, pairs + pairs, turned + pairs, dice.sample(pairs, 5)):
                book = book_of(order, C_SIGNS)
                self.assertEqual(book.classes(), first.classes())
                self.assertEqual([book.alike(one, other) for one, other in asked], told)

    def test_all_orders_of_few(self):
        pairs = [((G, A), (B,)), ((G, B), (A,)), ((F, A, B), (G, G, A)), ((A,), (F, B, A))]
        told = [book_of(order).classes() for order in itertools.permutations(pairs)]
        self.assertEqual(told, [told[0]] * 24)
        self.assertEqual(told[0], slow_classes(SIGNS, pairs, inner_terms(SIGNS, sum(pairs, ()))))


NO_TRIALS = [(((A,), (B,)),), ((A,), (B,)), [[(A,), (B,)]], [((A,),)], [((A,), (B,), (A,))], [(A,)], [()], [None],
             [((A,), (True,))], [((A,), [B])], [((A,), (5,))], [((), (A,))], [((A,), chain(31))], {}, None, 0, "",
             [((A,), (B,)), None], [None, ((A,), (B,))], [((A,), (B,))] * 25, {((A,), (B,)): True}]


class Trials(BookCase):
    def test_pairs_are_told_too(self):
        book = book_of([((A,), (G, B))])
        before, twin = state(book), book.twin()
        self.assertIs(book.tried([], (A,), (B,)), False)
        self.assertIs(book.tried([], (A,), (G, B)), True)
        self.assertIs(book.tried([((G, B), (B,))], (A,), (B,)), True)
        self.assertIs(book.tried([((G, B), (B,))], (F, A, A), (F, B, G, B)), True)
        self.assertIs(book.tried([((F, A, A), (B,)), ((F, A, A), (G, B))], (A,), (B,)), True)
        self.assertEqual(state(book), before)
        self.assertTrue(book == twin)
        self.assertIs(book.alike((A,), (B,)), False)

    def test_drawn_trials(self):
        for seed in range(60):
            dice = random.Random(seed)
            book, more = book_of(drawn_pairs(dice, 3, C_SIGNS), C_SIGNS), list(drawn_pairs(dice, 3, C_SIGNS))
            before, handed, twin = state(book), copy.deepcopy(more), book.twin()
            for one, other in drawn_pairs(dice, 6, C_SIGNS):
                labels = slow_labels(C_SIGNS, list(book.givens()) + more, [one, other])
                self.assertIs(book.tried(more, one, other), labels[one] == labels[other])
                self.assertIs(book.tried(more, one, other), labels[one] == labels[other])
            self.assertEqual(state(book), before)
            self.assertEqual(more, handed)
            self.assertTrue(book == twin)

    def test_no_givens(self):
        book = book_of([((A,), (B,))])
        for wrong in NO_TRIALS + odd_things():
            if wrong != []:
                self.unmoved(book, errors.NoGivens, {}, book.tried, wrong, (A,), (B,))
                self.unmoved(book, errors.NoGivens, {}, book.tried, wrong, (), None)
        for level in range(12):
            book.push()
        for wrong in NO_TRIALS:
            self.unmoved(book, errors.NoGivens, {}, book.tried, wrong, (A,), (B,))

    def test_no_term_behind_the_pairs_and_ahead_of_all_else(self):
        book = full_book()
        for level in range(12):
            book.push()
        for pairs in ([], [((F, A, A), (A,))], [((A,), (B,))] * 24):
            for wrong in NO_TERMS + odd_things():
                self.unmoved(book, errors.NoTerm, {"at": 0}, book.tried, pairs, wrong, (A,))
                self.unmoved(book, errors.NoTerm, {"at": 1}, book.tried, pairs, (A,), wrong)
                self.unmoved(book, errors.NoTerm, {"at": 0}, book.tried, pairs, wrong, wrong)

    def test_too_many_levels_first(self):
        book = full_book()
        for level in range(12):
            book.push()
        for pairs in ([], [((F, A, A), (A,))]):
            self.unmoved(book, errors.TooMany, {"many": 13, "most": 12}, book.tried, pairs, (A,), (A,))
        book.back()
        self.assertIs(book.tried([((A,), (B,))], (A,), (B,)), True)
        self.assertEqual(book.levels(), 11)

    def test_too_many_givens(self):
        book = book_of([((A,), (B,))] * 20)
        self.assertIs(book.tried([((A,), (G, A))] * 4, (B,), (G, B)), True)
        self.unmoved(book, errors.TooMany, {"many": 25, "most": 24}, book.tried, [((A,), (G, A))] * 5, (A,), (B,))
        self.unmoved(book, errors.TooMany, {"many": 25, "most": 24}, book.tried, [((A,), (G, A))] * 24, (A,), (B,))
        self.assertIs(Book(SIGNS).tried([((A,), (B,))] * 24, (A,), (B,)), True)

    def test_too_many_known_terms(self):
        book = full_book()
        self.unmoved(book, errors.TooMany, {"many": 41, "most": 40}, book.tried, [((F, A, A), (A,))], (A,), (A,))
        self.unmoved(book, errors.TooMany, {"many": 42, "most": 40}, book.tried,
                     [((A,), (B,)), ((F, A, A), (F, B, B))], (A,), (A,))
        self.assertIs(book.tried([((A,), (B,))], (F,) + chain(14) + chain(15), (F,) + chain_b(14) + chain(15)), True)

    def test_one_by_one(self):
        book = full_book()
        for given in range(23):
            book.tell((A,), (A,))
        pairs = [((A,), (B,)), ((F, A, A), (B,))]
        self.unmoved(book, errors.TooMany, {"many": 25, "most": 24}, book.tried, pairs, (A,), (B,))
        self.unmoved(book, errors.TooMany, {"many": 41, "most": 40}, book.tried, pairs[::-1], (A,), (B,))

    def test_levels_stay_at_their_places(self):
        book = Book(SIGNS)
        book.push()
        book.know((A,))
        book.tried([((G, A), (B,))], (A,), (B,))
        self.stands(book, [(A,)], [], [], 1)
        book.back()
        self.stands(book, [], [], [], 0)


if __name__ == "__main__":
    unittest.main()
