"""What the functions of terms refuse, each refusal alone and several due at once."""

import unittest

from helper import A, B, F, G, SIGNS, chain, nested, odd_things
from likenest import errors
from likenest.terms import depth, in_order, inner, inner_at, is_term, parts_of, put

NO_SIGNS = [(), [("a", 0)], (["a", 0],), (("f", 1),), (("a", 0), ("a", 1)), (("A", 0),), (("a", 4), ("b", 0))]
NO_TERMS = [(), (F,), (F, A), (A, A), (5,), (-1,), (True,), (False,), [A], (F, A, B, A), chain(31), None, "a", 0]
NO_PLACES = [-1, 3, 4, 30, 10 ** 39, -3, True, False, None, "", "0", (), (0,), [], [0], {}, {0: 0}, nested(list, 12)]
TERM = (F, A, B)


class Refusals(unittest.TestCase):
    def refused(self, error, function, *told, **fields):
        """Refused with just this error, of the very class, with these fields."""
        with self.assertRaises(error) as caught:
            function(*told)
        self.assertIs(type(caught.exception), error)
        self.assertEqual(vars(caught.exception), fields)
        for worth in vars(caught.exception).values():
            self.assertIs(type(worth), int)

    def test_no_signs(self):
        for signs in NO_SIGNS + odd_things():
            for function in (is_term, parts_of, inner, depth):
                self.refused(errors.NoSigns, function, signs, (0,))
            self.refused(errors.NoSigns, inner_at, signs, (0,), 0)
            self.refused(errors.NoSigns, put, signs, (0,), 0, (0,))
            self.refused(errors.NoSigns, in_order, signs, [(0,)])
            self.refused(errors.NoSigns, in_order, signs, [])

    def test_no_signs_ahead_of_all_else(self):
        for signs in NO_SIGNS:
            for term in NO_TERMS:
                for function in (is_term, parts_of, inner, depth, in_order):
                    self.refused(errors.NoSigns, function, signs, term)
                self.refused(errors.NoSigns, inner_at, signs, term, -1)
                self.refused(errors.NoSigns, put, signs, term, None, ())
                self.refused(errors.NoSigns, in_order, signs, [term])
            self.refused(errors.NoSigns, put, signs, chain(30), 29, chain(30))

    def test_no_term(self):
        for term in NO_TERMS + odd_things():
            for function in (parts_of, inner, depth):
                self.refused(errors.NoTerm, function, SIGNS, term, at=0)
            self.refused(errors.NoTerm, inner_at, SIGNS, term, 0, at=0)
            self.refused(errors.NoTerm, put, SIGNS, term, 0, (A,), at=0)

    def test_no_term_ahead_of_no_place(self):
        for term in NO_TERMS:
            for place in NO_PLACES:
                self.refused(errors.NoTerm, inner_at, SIGNS, term, place, at=0)
                self.refused(errors.NoTerm, put, SIGNS, term, place, (A,), at=0)
                self.refused(errors.NoTerm, put, SIGNS, term, place, (), at=0)

    def test_no_place(self):
        for place in NO_PLACES:
            self.refused(errors.NoPlace, inner_at, SIGNS, TERM, place)
            self.refused(errors.NoPlace, put, SIGNS, TERM, place, (A,))
        for many in (1, 2, 29, 30):
            self.refused(errors.NoPlace, inner_at, SIGNS, chain(many), many)
            self.refused(errors.NoPlace, inner_at, SIGNS, chain(many), -1)
            self.refused(errors.NoPlace, put, SIGNS, chain(many), many, (A,))
        for thing in odd_things():
            if type(thing) is not int or thing not in range(3):
                self.refused(errors.NoPlace, inner_at, SIGNS, TERM, thing)
                self.refused(errors.NoPlace, put, SIGNS, TERM, thing, (A,))

    def test_no_place_ahead_of_the_other_one(self):
        for place in NO_PLACES:
            for other in NO_TERMS:
                self.refused(errors.NoPlace, put, SIGNS, TERM, place, other)
        self.refused(errors.NoPlace, put, SIGNS, chain(30), 30, chain(30))

    def test_the_other_one_is_no_term(self):
        for other in NO_TERMS + odd_things():
            self.refused(errors.NoTerm, put, SIGNS, TERM, 1, other, at=1)
            self.refused(errors.NoTerm, put, SIGNS, (A,), 0, other, at=1)

    def test_the_other_one_ahead_of_too_many(self):
        self.refused(errors.NoTerm, put, SIGNS, chain(30), 29, (A, A), at=1)
        self.refused(errors.NoTerm, put, SIGNS, chain(30), 29, chain(31), at=1)
        self.refused(errors.NoTerm, put, SIGNS, (A,), 0, chain(31), at=1)

    def test_too_many(self):
        self.refused(errors.TooMany, put, SIGNS, chain(30), 29, (G, A), many=31, most=30)
        self.refused(errors.TooMany, put, SIGNS, chain(15), 14, chain(17), many=31, most=30)
        self.refused(errors.TooMany, put, SIGNS, (F, A, A), 2, chain(29), many=31, most=30)
        self.refused(errors.TooMany, put, SIGNS, (F, A, A), 1, chain(30), many=32, most=30)
        self.refused(errors.TooMany, put, SIGNS, chain(30), 29, chain(30), many=59, most=30)
        self.refused(errors.TooMany, put, SIGNS, chain(30), 10, chain(21), many=31, most=30)

    def test_in_order_of_what_is_no_list(self):
        for thing in odd_things() + [(A,), ((A,),), ((A,), (B,)), {(A,): (B,)}]:
            if type(thing) is not list:
                self.refused(errors.NoTerm, in_order, SIGNS, thing, at=0)

    def test_in_order_of_what_is_no_term(self):
        for wrong in NO_TERMS + odd_things():
            for many in (1, 2, 5):
                for at in range(many):
                    terms = [(B,), (A,), TERM, (A,), (G, A)][:many]
                    terms[at] = wrong
                    self.refused(errors.NoTerm, in_order, SIGNS, terms, at=at)

    def test_in_order_tells_the_first_that_is_none(self):
        self.refused(errors.NoTerm, in_order, SIGNS, [(A,), (B,), (), (A,), None], at=2)
        self.refused(errors.NoTerm, in_order, SIGNS, [None, ()], at=0)
        self.refused(errors.NoTerm, in_order, SIGNS, [(A,)] * 999 + [(A, A)], at=999)


if __name__ == "__main__":
    unittest.main()
