"""is_term, parts_of, inner, depth, inner_at, put and in_order, where nothing is refused."""

import functools
import itertools
import unittest

from helper import A, B, F, G, H, SIGNS, ahead, chain, flat, nested, odd_things, terms_to, trees_to, within
from likenest.terms import depth, in_order, inner, inner_at, is_term, parts_of, put

ONE_SIGN = (("a", 0),)
LAST_SIGNS = (("f", 2), ("g", 1), ("zebra", 0))
EIGHT_SIGNS = tuple((name, 0) for name in "abcdefg") + (("h", 3),)


def in_their_order(terms):
    return sorted(terms, key=functools.cmp_to_key(lambda one, other: ahead(other, one) - ahead(one, other)))


class IsTerm(unittest.TestCase):
    def yes(self, thing, signs=SIGNS):
        self.assertIs(is_term(signs, thing), True, thing)

    def no(self, thing, signs=SIGNS):
        self.assertIs(is_term(signs, thing), False, repr(thing)[:200])

    def test_the_document_s_own(self):
        self.yes((1, 0, 0), (("a", 0), ("f", 2)))

    def test_just_the_trees_are_terms(self):
        terms = {flat(tree) for tree in trees_to(5)}
        for many in range(6):
            for row in itertools.product(range(-1, 6), repeat=many):
                self.assertIs(is_term(SIGNS, row), row in terms, row)

    def test_just_the_trees_of_signs_with_the_bare_one_last(self):
        terms = {flat(tree) for tree in trees_to(7, LAST_SIGNS)}
        for many in range(8):
            for row in itertools.product(range(3), repeat=many):
                self.assertIs(is_term(LAST_SIGNS, row), row in terms, row)

    def test_how_many_numbers(self):
        self.no(())
        self.yes((A,))
        for many in range(1, 31):
            self.yes(chain(many))
        for many in (31, 32, 60, 61, 60000):
            self.no(chain(many))
        self.yes((F, A) * 14 + (G, B))
        self.no((F, A) * 15 + (B,))
        self.yes((H, A, A) * 9 + (G, G, B))
        self.no((H, A, A) * 10 + (B,))

    def test_too_few_and_too_many(self):
        for row in ((G,), (F,), (F, A), (H,), (H, A), (H, A, A), (F, G, A), (G, G), (H, A, F, A, B)):
            self.no(row)
        for row in ((A, A), (A, G), (G, A, A), (F, A, B, A), (H, A, A, A, A), (F, G, A, B, G)):
            self.no(row)

    def test_two_terms_one_behind_the_other(self):
        for one in terms_to(3):
            for other in terms_to(3):
                self.no(one + other)

    def test_numbers_that_are_no_signs(self):
        for number in (-1, -2, -5, 5, 6, 10 ** 39, -(10 ** 39)):
            self.no((number,))
            self.no((G, number))
            self.no((F, number, A))
            self.no((F, A, number))
        self.no((1,), ONE_SIGN)
        self.yes((0,), ONE_SIGN)
        self.yes((7, 0, 6, 3), EIGHT_SIGNS)
        self.no((8,), EIGHT_SIGNS)

    def test_truths_are_no_numbers(self):
        self.no((False,))
        self.no((True,))
        self.no((G, False))
        self.no((F, True, A))
        self.no((F, A, True))
        self.no((True, 0), (("a", 0), ("g", 1)))

    def test_numbers_of_other_kinds(self):
        for number in (None, "", "a", "0", (), (0,), [], [0], {}, {0: 0}, nested(tuple, 11), nested(dict, 11)):
            self.no((number,))
            self.no((G, number))
            self.no((F, number, A))
            self.no((F, A, number))

    def test_lists_and_other_things(self):
        self.no([A])
        self.no([F, A, B])
        self.no({A: A})
        self.no(((F, A, B),))
        self.no((F, (A,), (B,)))
        for thing in odd_things():
            self.no(thing)


class Told(unittest.TestCase):
    def test_parts(self):
        for tree in trees_to(6):
            self.assertEqual(parts_of(SIGNS, flat(tree)), [flat(part) for part in tree[1:]])

    def test_inner_terms_each_once_in_order(self):
        for tree in trees_to(6):
            terms = {flat(inside) for inside in within(tree)}
            self.assertEqual(inner(SIGNS, flat(tree)), in_their_order(terms))

    def test_depth(self):
        def deep(tree):
            return 1 + max([0] + [deep(part) for part in tree[1:]])
        for tree in trees_to(6):
            self.assertEqual(depth(SIGNS, flat(tree)), deep(tree))

    def test_inner_at_every_place(self):
        for tree in trees_to(6):
            term = flat(tree)
            self.assertEqual([inner_at(SIGNS, term, place) for place in range(len(term))],
                             [flat(inside) for inside in within(tree)])

    def test_with_the_bare_sign_last(self):
        for tree in trees_to(7, LAST_SIGNS):
            term = flat(tree)
            self.assertEqual(parts_of(LAST_SIGNS, term), [flat(part) for part in tree[1:]])
            self.assertEqual([inner_at(LAST_SIGNS, term, place) for place in range(len(term))],
                             [flat(inside) for inside in within(tree)])

    def test_by_hand(self):
        term = (H, F, A, B, G, F, A, B, A)
        self.assertEqual(parts_of(SIGNS, term), [(F, A, B), (G, F, A, B), (A,)])
        self.assertEqual(inner(SIGNS, term), [(A,), (B,), (F, A, B), (G, F, A, B), term])
        self.assertEqual(depth(SIGNS, term), 4)
        self.assertEqual(inner_at(SIGNS, term, 0), term)
        self.assertEqual(inner_at(SIGNS, term, 4), (G, F, A, B))
        self.assertEqual(inner_at(SIGNS, term, 8), (A,))
        self.assertEqual(parts_of(SIGNS, (A,)), [])
        self.assertEqual(inner(SIGNS, (A,)), [(A,)])
        self.assertEqual(depth(SIGNS, (A,)), 1)

    def test_of_thirty_numbers(self):
        term = chain(30)
        self.assertEqual(parts_of(SIGNS, term), [chain(29)])
        self.assertEqual(inner(SIGNS, term), [chain(many) for many in range(1, 31)])
        self.assertEqual(depth(SIGNS, term), 30)
        self.assertEqual(inner_at(SIGNS, term, 29), (A,))
        flat_one = (H, A, A) * 9 + (G, G, B)
        self.assertEqual(parts_of(SIGNS, flat_one), [(A,), (A,), flat_one[3:]])
        self.assertEqual(depth(SIGNS, flat_one), 12)

    def test_kinds_of_values(self):
        term = (F, A, G, B)
        for told in (parts_of(SIGNS, term), inner(SIGNS, term), in_order(SIGNS, [term])):
            self.assertIs(type(told), list)
            self.assertEqual({type(one) for one in told}, {tuple})
        self.assertIs(type(depth(SIGNS, term)), int)
        self.assertIs(type(inner_at(SIGNS, term, 1)), tuple)
        self.assertIs(type(put(SIGNS, term, 1, (B,))), tuple)


def put_in_tree(tree, place, other):
    """The tree with another one at a place: by its parts, and by no end of a row of numbers."""
    if place == 0:
        return other
    place -= 1
    parts = list(tree[1:])
    for at, part in enumerate(parts):
        if place < len(flat(part)):
            parts[at] = put_in_tree(part, place, other)
            break
        place -= len(flat(part))
    return tree[:1] + tuple(parts)


class Put(unittest.TestCase):
    def test_at_every_place(self):
        others = trees_to(3)
        for tree in trees_to(5):
            for place in range(len(flat(tree))):
                for other in others:
                    self.assertEqual(put(SIGNS, flat(tree), place, flat(other)),
                                     flat(put_in_tree(tree, place, other)))

    def test_what_stands_there_put_again(self):
        for term in terms_to(6):
            for place in range(len(term)):
                self.assertEqual(put(SIGNS, term, place, inner_at(SIGNS, term, place)), term)

    def test_thirty_numbers(self):
        self.assertEqual(put(SIGNS, chain(30), 29, (B,)), (G,) * 29 + (B,))
        self.assertEqual(put(SIGNS, chain(30), 0, (B,)), (B,))
        self.assertEqual(put(SIGNS, (B,), 0, chain(30)), chain(30))
        self.assertEqual(put(SIGNS, chain(15), 14, chain(16)), chain(30))
        self.assertEqual(put(SIGNS, (F, A, A), 2, chain(28)), (F, A) + chain(28))
        self.assertEqual(put(SIGNS, chain(30), 10, chain(20)), chain(30))


class InOrder(unittest.TestCase):
    def test_all_small_terms(self):
        terms = terms_to(4)
        for step in (1, 7, 11):
            mixed = [terms[place * step % len(terms)] for place in range(len(terms))]
            self.assertEqual(in_order(SIGNS, mixed), in_their_order(mixed))
            self.assertEqual(in_order(SIGNS, mixed[::-1]), in_their_order(mixed))

    def test_fewer_numbers_go_first(self):
        self.assertEqual(in_order(SIGNS, [(F, A, A), (G, B), (B,), (G, G, B), (A,), (G, A)]),
                         [(A,), (B,), (G, A), (G, B), (G, G, B), (F, A, A)])
        self.assertEqual(in_order(LAST_SIGNS, [(0, 2, 2), (1, 2), (2,)]), [(2,), (1, 2), (0, 2, 2)])

    def test_twins(self):
        self.assertEqual(in_order(SIGNS, [(B,), (A,), (B,), (G, A), (A,), (B,)]),
                         [(A,), (A,), (B,), (B,), (B,), (G, A)])

    def test_no_terms(self):
        self.assertEqual(in_order(SIGNS, []), [])

    def test_many_terms(self):
        terms = [chain(many) for many in range(30, 0, -1)] * 60
        self.assertEqual(in_order(SIGNS, terms), [chain(many) for many in range(1, 31) for turn in range(60)])


if __name__ == "__main__":
    unittest.main()
