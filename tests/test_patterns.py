"""is_pattern and are_rules of anything, and matches in a book."""

import itertools
import random
import unittest

from helper import A, B, C_SIGNS, F, G, H, NO_SIGNS, SIGNS, BookCase, Case, book_of, drawn_pairs, full_book
from helper import nested, odd_things, otherwise, slow_matches, slow_row, state
from likenest import errors
from likenest.books import Book
from likenest.patterns import are_rules, is_pattern, matches

RULES = (((F, -1, -2), (F, -2, -1)), ((G, G, -1), (-1,)), ((G, A), (B,)), ((H, -1, -2, -3), (F, -3, F, -1, -1)))
NO_PATTERNS = [(), (-2,), (-3,), (-4,), (0, 0), (G,), (G, -2), (F, -1), (F, -2, -1), (F, -1, -3), (-1, -1), (-1, A),
               (H, -1, -3, -2), (H, -3, -2, -1), (F, -1, -4), (G, True), (True,), (False,), [-1], [G, -1], (5,),
               (G, (-1,)), (G, "x"), (G, None), None, -1, "x", {}]


def in_turn(row):
    """Whether the letters, each taken where it first stands, are -1, -2 .. one behind the other."""
    letters = list(dict.fromkeys(number for number in row if number < 0))
    return letters == [-1, -2, -3][:len(letters)]


def slow_pattern(signs, thing):
    if type(thing) is not tuple or not 1 <= len(thing) <= 12 or not slow_row(signs, thing, 3):
        return False
    return in_turn(thing)


def slow_rules(signs, thing):
    """Whether they are rules, of anything."""
    if type(thing) is not tuple or len(thing) > 6:
        return False
    for rule in thing:
        if type(rule) is not tuple or len(rule) != 2 or not slow_pattern(signs, rule[0]) or rule[0][0] < 0:
            return False
        right = rule[1]
        if type(right) is not tuple or not 1 <= len(right) <= 12 or not slow_row(signs, right, 3):
            return False
        if not {number for number in right if number < 0} <= set(rule[0]):
            return False
    return True


class IsPattern(Case):
    def yes(self, thing, signs=SIGNS):
        self.assertIs(is_pattern(signs, thing), True, thing)

    def no(self, thing, signs=SIGNS):
        self.assertIs(is_pattern(signs, thing), False, repr(thing)[:200])

    def test_ordinary(self):
        for pattern in ((-1,), (A,), (G, -1), (G, A), (F, -1, -1), (F, -1, -2), (F, A, -1), (H, -1, -2, -3), (H, -1, -1, -2),
                        (H, -1, -2, -1), (F, G, -1, F, -2, -1), (F, F, -1, -2, F, -3, -1), (F, B, G, A)):
            self.yes(pattern)

    def test_letters_out_of_order_or_left_out_or_below(self):
        for pattern in NO_PATTERNS:
            self.no(pattern)
        self.no((F, F, -1, -3, -2))
        self.no((F, F, -2, -1, -1))
        self.no((H, -1, -2, -4))
        self.no((F, F, -1, -2, F, -3, -4))
        self.no((H, -1, -2, F, -3, -4))
        self.yes((F, F, -1, -2, -3))

    def test_how_many_numbers(self):
        for many in range(1, 13):
            self.yes((G,) * (many - 1) + (-1,))
            self.yes((G,) * (many - 1) + (A,))
        for many in (13, 14, 30, 31, 60000):
            self.no((G,) * (many - 1) + (-1,))
            self.no((G,) * (many - 1) + (A,))
        self.yes((F, -1) * 5 + (G, -2))
        self.no((F, -1) * 6 + (-2,))
        self.no(())

    def test_all_short_rows(self):
        for many in range(5):
            for row in itertools.product(range(-4, 6), repeat=many):
                self.assertIs(is_pattern(SIGNS, row), slow_pattern(SIGNS, row), row)

    def test_longer_rows(self):
        signs = (("a", 0), ("f", 2))
        for row in itertools.product(range(-3, 2), repeat=7):
            self.assertIs(is_pattern(signs, row), slow_pattern(signs, row), row)

    def test_one_thing_otherwise(self):
        for pattern in ((-1,), (F, G, -1, F, -2, -1), (H, -1, -2, -3), (F, A, G, B)):
            for wrong in otherwise(pattern):
                self.assertIs(is_pattern(SIGNS, wrong), slow_pattern(SIGNS, wrong), wrong)

    def test_anything(self):
        for thing in odd_things():
            if thing != (-1,):
                self.no(thing)
            self.no((G, thing) if type(thing) is not int or thing not in (0, 1, -1) else None)
            self.no((F, -1, thing) if type(thing) is not int or thing not in (0, 1, -1) else None)
        self.assertIs(is_pattern(thing=(-1,), signs=SIGNS), True)

    def test_no_signs(self):
        for signs in NO_SIGNS + odd_things():
            for thing in ((-1,), None):
                self.refused(errors.NoSigns, {}, is_pattern, signs, thing)
                self.refused(errors.NoSigns, {}, are_rules, signs, thing)


class AreRules(Case):
    def yes(self, thing):
        self.assertIs(are_rules(SIGNS, thing), True, thing)

    def no(self, thing):
        self.assertIs(are_rules(SIGNS, thing), False, repr(thing)[:200])

    def test_ordinary(self):
        self.yes(())
        self.yes(RULES)
        self.yes((((A,), (B,)),))
        for right in ((-1,), (-2,), (A,), (F, -2, -1), (F, -2, -2), (G, G, -2), (H, -2, -1, -2), (F, A, B)):
            self.yes((((F, -1, -2), right),))
        self.assertIs(are_rules(thing=RULES, signs=SIGNS), True)

    def test_six_and_seven(self):
        for many in range(7):
            self.yes((((G, -1), (-1,)),) * many)
        for many in (7, 8, 20000):
            self.no((((G, -1), (-1,)),) * many)

    def test_left_sides(self):
        for left in NO_PATTERNS + [(-1,), (G,) * 12 + (A,)]:
            self.no(((left, (A,)),))
            self.no((((G, -1), (-1,)), (left, (A,))))
        self.yes((((G,) * 11 + (-1,), (-1,)),))

    def test_right_sides(self):
        self.no((((H, -1, -2, -3), (-4,)),))
        self.no((((F, F, -1, -2, F, -3, -4), (-4,)),))
        for right in ((-2,), (-3,), (-4,), (F, -1, -2), (G, -3)):
            self.no((((G, -1), right),))
            self.no((((G, A), right),))
        for right in ((), (-1, -1), (G,), (F, -1), (A, A), (5,), (G, -4), [-1], (True,), (G, True), (-1, A), None, -1, "x", (None,)):
            self.no((((F, -1, -2), right),))
        self.no((((G, A), (-1,)),))
        self.yes((((G, -1), (G,) * 11 + (-1,)),))
        self.no((((G, -1), (G,) * 12 + (-1,)),))
        self.no((((G, -1), (G,) * 12 + (A,)),))

    def test_shapes(self):
        rule = ((G, -1), (-1,))
        for thing in (rule, [rule], (list(rule),), (rule[:1],), (rule + ((A,),),), ((),), ([list(rule)],), None, 0, {}, (None,)):
            self.no(thing)

    def test_one_thing_otherwise(self):
        told = []
        for wrong in otherwise(RULES):
            told.append(slow_rules(SIGNS, wrong))
            self.assertIs(are_rules(SIGNS, wrong), told[-1], wrong)
        self.assertGreater(told.count(False), 300)
        self.assertGreater(told.count(True), 10)

    def test_anything(self):
        for thing in odd_things():
            self.assertIs(are_rules(SIGNS, thing), thing == (), repr(thing)[:200])
            for whole in ((thing,), ((thing, (A,)),), (((G, -1), thing),)):
                self.assertIs(are_rules(SIGNS, whole), slow_rules(SIGNS, whole), repr(whole)[:200])


class Matches(BookCase):
    def matched(self, book, pattern, told):
        self.assertEqual(matches(book, pattern), told)
        self.assertEqual(slow_matches(book, pattern), told)

    def test_of_an_empty_book(self):
        for pattern in ((-1,), (A,), (G, -1), (F, -1, -2)):
            self.matched(Book(SIGNS), pattern, [])

    def test_a_letter_alone(self):
        book = book_of([((G, A), (A,)), ((F, A, B), (G, B))])
        self.matched(book, (-1,), [((A,), (A,)), ((B,), (B,)), ((G, B), (G, B))])
        self.assertIs(type(matches(book, (-1,))), list)
        self.assertEqual({type(match) for match in matches(book, (-1,))}, {tuple})

    def test_without_letters(self):
        book = book_of([((G, A), (B,))])
        self.matched(book, (A,), [((A,),)])
        self.matched(book, (G, A), [((B,),)])
        self.matched(book, (G, B), [])
        self.matched(book, (G, G, A), [])
        book.know((G, B))
        self.matched(book, (G, G, A), [((G, B),)])

    def test_by_the_classes_of_parts(self):
        book = book_of([((G, A), (B,))])
        book.know((G, B))
        # f(g(a), a) is known, and g(a) is in the class of b.
        book.know((F, G, A, A))
        self.matched(book, (F, -1, -2), [((F, G, A, A), (B,), (A,))])
        self.matched(book, (F, B, -1), [((F, G, A, A), (A,))])
        self.matched(book, (F, G, -1, -1), [((F, G, A, A), (A,))])
        self.matched(book, (F, -1, -1), [])
        self.matched(book, (G, -1), [((B,), (A,)), ((G, B), (B,))])
        self.matched(book, (G, G, -1), [((G, B), (A,))])

    def test_the_same_letter_twice(self):
        book = book_of([((A,), (B,))])
        book.know((F, A, B))
        book.know((F, G, A, G, B))
        book.know((F, A, G, A))
        self.matched(book, (F, -1, -1), [((F, A, B), (A,)), ((F, G, A, G, B), (G, A))])
        self.matched(book, (F, -1, G, -1), [((F, A, G, A), (A,))])
        self.matched(book, (F, G, -1, G, -2), [((F, G, A, G, B), (A,), (A,))])

    def test_rising_as_tuples_compare(self):
        book = Book((("f", 2), ("g", 1), ("a", 0)))
        book.know((0, 1, 2, 2))
        book.know((0, 2, 2))
        self.assertEqual(matches(book, (-1,)), [((0, 1, 2, 2),) * 2, ((0, 2, 2),) * 2, ((1, 2),) * 2, ((2,),) * 2])
        self.assertEqual(matches(book, (0, -1, -2)), [((0, 1, 2, 2), (1, 2), (2,)), ((0, 2, 2), (2,), (2,))])

    def test_three_letters(self):
        book = Book(SIGNS)
        for row in itertools.product((A, B), repeat=3):
            book.know((H,) + row)
        self.assertEqual(len(matches(book, (H, -1, -2, -3))), 8)
        self.matched(book, (H, -1, -2, -3), [((H,) + row,) + tuple((number,) for number in row)
                                             for row in itertools.product((A, B), repeat=3)])
        self.matched(book, (H, -1, -2, -1), [((H, A, A, A), (A,), (A,)), ((H, A, B, A), (A,), (B,)),
                                             ((H, B, A, B), (B,), (A,)), ((H, B, B, B), (B,), (B,))])

    def test_many_matches(self):
        book = Book(SIGNS)
        book.know((G,) * 15 + (A,))
        for many in range(2, 17):
            book.tell((F, A) + (G,) * (many - 1) + (A,), (B,))
        book.know((F, B, B))
        book.know((F, B, F, B, B))
        told = matches(book, (F, F, A, -1, F, F, A, -2, F, A, -3))
        self.assertEqual(len(told), 15 ** 3)
        self.assertEqual(told, sorted(set(told)))
        self.assertEqual({match[0] for match in told}, {(F, B, F, B, B)})

    def test_of_a_full_book(self):
        book = full_book()
        self.assertEqual(len(matches(book, (-1,))), 40)
        self.assertEqual(len(matches(book, (G, -1))), 38)
        self.assertEqual(len(matches(book, (G,) * 11 + (-1,))), 19)
        self.assertEqual(matches(book, (F, -1, -2)), [])

    def test_drawn_books(self):
        patterns = [(-1,), (G, -1), (F, -1, -2), (F, -1, -1), (F, G, -1, -2), (F, -1, G, -1), (G, G, -1), (F, F, -1, -2, -3),
                    (F, -1, F, -2, -3), (F, F, -1, -2, F, -2, -1), (F, G, -1, F, -2, -1)]
        found = 0
        for seed in range(60):
            dice = random.Random(seed)
            signs = (SIGNS, C_SIGNS)[seed % 2]
            book = book_of(drawn_pairs(dice, dice.randrange(1, 8), signs, 3 if seed % 3 == 0 and signs == C_SIGNS else 2), signs)
            shift = {G: 4, F: 5} if signs == C_SIGNS else {}
            before = state(book)
            for pattern in patterns:
                pattern = tuple(shift.get(number, number) for number in pattern)
                told = matches(book, pattern)
                self.assertEqual(told, slow_matches(book, pattern), pattern)
                self.assertEqual(matches(pattern=pattern, nest=book), told)
                found += len(told) > 0
            self.assertEqual(state(book), before)
        self.assertGreater(found, 200)

    def test_the_list_is_the_asker_s_own(self):
        book = book_of([((G, A), (B,))])
        told = matches(book, (-1,))
        told.clear()
        self.assertEqual(matches(book, (-1,)), [((A,), (A,)), ((B,), (B,))])

    def test_with_levels(self):
        book = book_of([((G, A), (B,))])
        book.push()
        book.tell((A,), (B,))
        self.matched(book, (G, -1), [((A,), (A,))])
        book.back()
        self.matched(book, (G, -1), [((B,), (A,))])

    def test_serves_what_tells_signs_and_classes(self):
        class Nest:
            def signs(self):
                return SIGNS

            def classes(self):
                return [[(A,), (G, A)], [(B,)]]

        self.assertEqual(matches(Nest(), (G, -1)), [((A,), (A,))])

    def test_no_pattern(self):
        book = book_of([((G, A), (B,))])
        for wrong in NO_PATTERNS + odd_things() + [nested(tuple, 12), (G,) * 12 + (-1,)]:
            if wrong != (-1,):
                self.unmoved(book, errors.NoPattern, {}, matches, book, wrong)


if __name__ == "__main__":
    unittest.main()
