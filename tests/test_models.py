"""is_model of anything, worth, and a book's model number by number."""

import copy
import random
import unittest

from helper import A, B, C_SIGNS, F, G, H, NO_GIVENS, NO_SIGNS, NO_TERMS, SIGNS, Case, book_of, chain, drawn_pairs
from helper import drawn_term, odd_things, otherwise, slow_model, slow_worth, terms_to
from likenest import errors
from likenest.books import Book
from likenest.models import is_model, model_of, worth

EMPTY = (1, 0, ((), (), (), (), ()))
# a is 0, b is 1, g turns 0 to 1 and 1 to 0, f(0, 1) is 0, h(1, 1, 1) is 1, all else is 2.
MODEL = (3, 2, ((((), 0),), (((), 1),), (((0,), 1), ((1,), 0)), (((0, 1), 0),), (((1, 1, 1), 1),)))


def with_table(sign, table, size=3, rest=2):
    tables = list(MODEL[2])
    tables[sign] = table
    return (size, rest, tuple(tables))


class IsModel(Case):
    def yes(self, thing, givens=(), unlikes=(), signs=SIGNS):
        self.assertIs(is_model(signs, givens, thing, unlikes=unlikes), True, repr(thing)[:200])

    def no(self, thing, givens=(), unlikes=(), signs=SIGNS):
        self.assertIs(is_model(signs, givens, thing, unlikes=unlikes), False, repr(thing)[:200])

    def test_good_ones(self):
        self.yes(EMPTY)
        self.yes(MODEL)
        self.yes((2, 0, MODEL[2][:0] + ((), (((), 1),), (), (), ())))
        self.yes((1, 0, ((),)), signs=(("a", 0),))
        self.assertIs(is_model(SIGNS, (), MODEL), True)
        self.assertIs(is_model(thing=MODEL, givens=(), signs=SIGNS, unlikes=()), True)

    def test_size(self):
        tables = ((), (), (), (), ())
        for size in (1, 2, 60, 299, 300):
            self.yes((size, 0, tables))
            self.yes((size, size - 1, tables))
        for size in (0, -1, 301, 302, 10 ** 39, -(10 ** 39), True, False, None, "1", (1,), [1], {}):
            self.no((size, 0, tables))
        self.yes((300, 299, ((((), 298),), (), (((298,), 0),), (), ())))
        self.no((300, 299, ((((), 300),), (), (), (), ())))

    def test_rest(self):
        tables = ((), (), (), (), ())
        for rest in (3, 4, -1, -3, 10 ** 39, True, False, None, "0", (0,), [0], {}):
            self.no((3, rest, tables))
        self.no((1, 1, tables))
        self.no((1, False, tables))
        self.no((2, True, tables))

    def test_how_many_tables(self):
        for tables in ((), ((),), ((),) * 4, ((),) * 6, [(), (), (), (), ()], None, 0, "abcde", {}):
            self.no((1, 0, tables))
        for table in ([], None, 0, "", {}, {(): 0}, True):
            self.no(with_table(G, table))

    def test_rising(self):
        self.yes(with_table(G, (((0,), 1), ((1,), 0), ((2,), 0))))
        self.no(with_table(G, (((1,), 0), ((0,), 1))))
        self.no(with_table(G, (((0,), 1), ((2,), 0), ((1,), 0))))
        self.yes(with_table(F, (((0, 1), 1), ((1, 0), 0))))
        self.no(with_table(F, (((1, 0), 0), ((0, 1), 1))))
        self.yes(with_table(H, (((0, 2, 2), 1), ((1, 0, 0), 0), ((1, 0, 1), 0))))
        self.no(with_table(H, (((1, 0, 1), 0), ((1, 0, 0), 0))))

    def test_the_same_parts_twice(self):
        self.no(with_table(G, (((0,), 0), ((0,), 1))))
        self.no(with_table(G, (((0,), 1), ((0,), 1))))
        self.no(with_table(A, (((), 0), ((), 1))))
        self.no(with_table(A, (((), 0), ((), 0))))

    def test_rest_as_a_worth(self):
        self.no(with_table(A, (((), 2),)))
        self.no(with_table(G, (((0,), 2),)))
        self.no((1, 0, ((((), 0),), (), (), (), ())))
        self.yes(with_table(G, (((2,), 1),)))

    def test_rows_that_are_none(self):
        for row in ((), ((0,),), ((0,), 1, 1), [(0,), 1], ([0], 1), (0, 1), ((0,), 1, ()), (1, (0,)), ((), 1), ((0, 0), 1), ((3,), 1),
                    ((-1,), 1), ((0,), 3), ((0,), -1), ((True,), 1), ((0,), True), ((0,), None), ((None,), 1), (("0",), 1),
                    (((0,),), 1), ((0,), (1,)), None, 0, "ab", {}, {0: 1}):
            self.no(with_table(G, (row,)))
            self.no(with_table(G, (((0,), 1), row)))
        self.no(with_table(A, (((0,), 1),)))
        self.no(with_table(F, (((0,), 1),)))
        self.no(with_table(H, (((0, 0), 1),)))

    def test_one_thing_otherwise_at_any_depth(self):
        handed = copy.deepcopy(MODEL)
        told = []
        for model in (MODEL, EMPTY, model_of(book_of([((F, A, B), (G, A)), ((H, A, A, A), (B,))]))):
            for wrong in otherwise(model):
                told.append(slow_model(SIGNS, wrong))
                self.assertIs(is_model(SIGNS, (), wrong), told[-1], wrong)
                if not told[-1]:
                    self.refused(errors.NoModel, {}, worth, SIGNS, wrong, (A,))
        self.assertEqual(MODEL, handed)
        self.assertGreater(told.count(False), 500)
        self.assertGreater(told.count(True), 5)

    def test_anything(self):
        for thing in odd_things():
            self.no(thing)
            for whole in ((thing, 0, ((),) * 5), (1, thing, ((),) * 5), (1, 0, thing), (3, 2, (thing, (), (), (), ())),
                          with_table(G, (thing,)), with_table(G, ((thing, 0),)), with_table(G, (((0,), thing),)),
                          with_table(G, (((thing,), 0),))):
                self.assertIs(is_model(SIGNS, (), whole), slow_model(SIGNS, whole), repr(whole)[:200])
        self.no(tuple(list(MODEL[:2]) + [list(MODEL[2])]))

    def test_large_tables(self):
        table = tuple(((one, other), 1) for one in range(120) for other in range(120))
        self.yes((120, 0, ((), (), (), table, ())))
        self.no((120, 0, ((), (), (), table[:-2] + table[:-3:-1], ())))
        self.no((119, 0, ((), (), (), table, ())))

    def test_givens(self):
        fine = (((G, A), (B,)), ((G, B), (A,)), ((F, A, B), (A,)), ((F, B, A), (F, A, A)), ((G, F, B, B), (H, A, A, A)))
        for many in range(6):
            self.yes(MODEL, fine[:many])
        for wrong in (((A,), (B,)), ((G, A), (A,)), ((F, A, B), (F, B, A)), ((F, A, A), (A,))):
            self.no(MODEL, (wrong,))
            self.no(MODEL, fine + (wrong,))
            self.no(MODEL, (wrong,) + fine)
            self.yes(EMPTY, (wrong,) + fine)

    def test_unlikes(self):
        fine = (((A,), (B,)), ((G, A), (A,)), ((F, A, B), (F, B, A)), ((F, A, A), (A,)))
        for many in range(5):
            self.yes(MODEL, (), fine[:many])
        for wrong in (((A,), (A,)), ((G, A), (B,)), ((F, B, A), (F, A, A))):
            self.no(MODEL, (), (wrong,))
            self.no(MODEL, (), fine + (wrong,))
            self.no(EMPTY, (), (wrong,))
        self.no(EMPTY, (), fine[:1])
        self.no(MODEL, (((A,), (B,)),), (((A,), (B,)),))
        self.no(MODEL, (((A,), (A,)),), (((A,), (A,)),))

    def test_refusals_in_their_order(self):
        for signs in NO_SIGNS + odd_things():
            for givens, unlikes in (((), ()), (None, None)):
                self.refused(errors.NoSigns, {}, is_model, signs, givens, EMPTY, unlikes=unlikes)
        for wrong in NO_GIVENS + odd_things():
            if wrong != ():
                for thing in (MODEL, None):
                    self.refused(errors.NoGivens, {}, is_model, SIGNS, wrong, thing)
                    self.refused(errors.NoGivens, {}, is_model, SIGNS, wrong, thing, unlikes=None)
                    self.refused(errors.NoUnlikes, {}, is_model, SIGNS, (), thing, unlikes=wrong)
        sixty = (((A,), (A,)),) * 60
        self.yes(MODEL, sixty, (((A,), (B,)),) * 60)
        self.refused(errors.NoGivens, {}, is_model, SIGNS, sixty + sixty[:1], MODEL)
        self.refused(errors.NoUnlikes, {}, is_model, SIGNS, sixty, MODEL, unlikes=(((A,), (B,)),) * 61)


class Worth(Case):
    def test_by_hand(self):
        for term, value in (((A,), 0), ((B,), 1), ((G, A), 1), ((G, G, A), 0), ((G, B), 0), ((F, A, B), 0), ((F, B, A), 2),
                            ((F, F, A, B, G, A), 0), ((F, G, B, B), 0), ((G, F, B, A), 2), ((H, B, B, B), 1),
                            ((H, G, A, B, B), 1), ((H, A, B, B), 2), (chain(30), 1), (chain(29), 0)):
            told = worth(SIGNS, MODEL, term)
            self.assertEqual((type(told), told), (int, value), term)
            self.assertEqual(worth(term=term, model=MODEL, signs=SIGNS), value)

    def test_rest_is_a_thing(self):
        model = (2, 0, ((), (((), 1),), (((0,), 1),), (((0, 1), 1), ((1, 0), 1)), ()))
        self.assertEqual(worth(SIGNS, model, (A,)), 0)
        self.assertEqual(worth(SIGNS, model, (G, A)), 1)
        self.assertEqual(worth(SIGNS, model, (G, B)), 0)
        self.assertEqual(worth(SIGNS, model, (G, G, A)), 0)
        self.assertEqual(worth(SIGNS, model, (F, A, B)), 1)
        self.assertEqual(worth(SIGNS, model, (F, B, B)), 0)
        for term in terms_to(4):
            self.assertEqual(worth(SIGNS, EMPTY, term), 0)

    def test_slowly(self):
        for seed in range(30):
            dice = random.Random(seed)
            model = model_of(book_of(drawn_pairs(dice, 4)))
            for turn in range(10):
                term = drawn_term(dice, SIGNS, 4)
                self.assertEqual(worth(SIGNS, model, term), slow_worth(SIGNS, model, term))

    def test_refusals_in_their_order(self):
        for signs in NO_SIGNS + odd_things():
            self.refused(errors.NoSigns, {}, worth, signs, EMPTY, (A,))
            self.refused(errors.NoSigns, {}, worth, signs, None, None)
        for model in odd_things() + [MODEL[:2], list(MODEL), (1, 0, ((),) * 4), (0, 0, ((),) * 5)]:
            self.refused(errors.NoModel, {}, worth, SIGNS, model, (A,))
            self.refused(errors.NoModel, {}, worth, SIGNS, model, None)
        for term in NO_TERMS + odd_things():
            self.refused(errors.NoTerm, {"at": 0}, worth, SIGNS, MODEL, term)


class ModelOf(Case):
    def test_of_an_empty_book(self):
        self.assertEqual(model_of(Book(SIGNS)), EMPTY)
        self.assertEqual(model_of(book=Book((("a", 0),))), (1, 0, ((),)))

    def test_number_by_number(self):
        book = Book(SIGNS)
        book.know((F, A, G, B))
        # The classes are a, b, g(b), f(a, g(b)).
        self.assertEqual(model_of(book), (5, 4, ((((), 0),), (((), 1),), (((1,), 2),), (((0, 2), 3),), ())))
        book.tell((G, B), (A,))
        self.assertEqual(model_of(book), (4, 3, ((((), 0),), (((), 1),), (((1,), 0),), (((0, 0), 2),), ())))
        book.tell((F, A, G, B), (F, A, A))
        self.assertEqual(model_of(book), (4, 3, ((((), 0),), (((), 1),), (((1,), 0),), (((0, 0), 2),), ())))
        book.tell((A,), (B,))
        self.assertEqual(model_of(book), (3, 2, ((((), 0),), (((), 0),), (((0,), 0),), (((0, 0), 1),), ())))
        book.tell((H, A, B, F, A, A), (G, F, A, A))
        self.assertEqual(model_of(book), (4, 3, ((((), 0),), (((), 0),), (((0,), 0), ((1,), 2)), (((0, 0), 1),),
                                                 (((0, 0, 1), 2),))))

    def test_rows_rise(self):
        book = Book(SIGNS)
        for term in ((F, B, B), (F, B, A), (F, A, B), (F, A, A), (G, B), (G, A)):
            book.know(term)
        self.assertEqual(model_of(book), (9, 8, ((((), 0),), (((), 1),), (((0,), 2), ((1,), 3)),
                                                 (((0, 0), 4), ((0, 1), 5), ((1, 0), 6), ((1, 1), 7)), ())))

    def test_unlikes_and_levels_turn_nothing(self):
        book = book_of([((A,), (B,))])
        before = model_of(book)
        book.push()
        book.part((A,), (B,))
        self.assertEqual(model_of(book), before)
        book.tell((G, A), (F, A, A))
        self.assertNotEqual(model_of(book), before)
        book.back()
        self.assertEqual(model_of(book), before)

    def test_drawn_books(self):
        for seed in range(60):
            dice = random.Random(seed)
            signs = (SIGNS, C_SIGNS)[seed % 2]
            book = book_of(drawn_pairs(dice, dice.randrange(0, 6), signs), signs)
            for pair in drawn_pairs(dice, 2, signs):
                book.know(pair[0])
            model = model_of(book)
            classes = book.classes()
            self.assertTrue(slow_model(signs, model))
            self.assertIs(is_model(signs, book.givens(), model), True)
            self.assertEqual(model[:2], (len(classes) + 1, len(classes)))
            for number, terms in enumerate(classes):
                self.assertEqual({slow_worth(signs, model, term) for term in terms}, {number})
            shapes = {(term[0],) + tuple(slow_worth(signs, model, part) for part in self.parts(signs, term))
                      for term in book.known()}
            self.assertEqual(sum(len(table) for table in model[2]), len(shapes))

    def parts(self, signs, term):
        """The parts of a term: the shortest rows behind its sign that are trees."""
        found, begin = [], 1
        while begin < len(term):
            wanted, end = 1, begin
            while wanted:
                wanted += signs[term[end]][1] - 1
                end += 1
            found.append(term[begin:end])
            begin = end
        return found


if __name__ == "__main__":
    unittest.main()
