"""Equal books, and twins."""

import random
import unittest

from helper import A, B, C_SIGNS, F, G, SIGNS, BookCase, drawn_pairs, state
from likenest import errors
from likenest.books import Book


def done(*deeds, signs=SIGNS):
    """A book that these deeds were done with: tuples of a word and what is handed in."""
    book = Book(signs)
    for word, *told in deeds:
        getattr(book, word)(*told)
    return book


class Equal(BookCase):
    def same(self, one, other):
        self.assertIs(one == other, True)
        self.assertIs(other == one, True)
        self.assertIs(one != other, False)
        self.assertIs(other != one, False)

    def differ(self, one, other):
        self.assertIs(one == other, False)
        self.assertIs(other == one, False)
        self.assertIs(one != other, True)
        self.assertIs(other != one, True)

    def test_the_same_deeds(self):
        deeds = [("know", (F, A, B)), ("tell", (A,), (B,)), ("push",), ("part", (G, A), (B,)), ("push",),
                 ("tell", (G, B), (A,)), ("know", (G, G, A))]
        for many in range(len(deeds) + 1):
            self.same(done(*deeds[:many]), done(*deeds[:many]))
            for other in range(many):
                self.differ(done(*deeds[:many]), done(*deeds[:other]))

    def test_signs(self):
        self.differ(Book(SIGNS), Book(SIGNS[:4]))
        self.differ(Book((("a", 0),)), Book((("b", 0),)))
        self.differ(Book((("a", 0), ("b", 0))), Book((("b", 0), ("a", 0))))
        self.differ(Book((("a", 0), ("f", 1))), Book((("a", 0), ("f", 2))))
        self.same(Book((("a", 0),)), Book((("a", 0),)))

    def test_terms_made_known_in_another_order(self):
        self.same(done(("know", (A,)), ("know", (B,))), done(("know", (B,)), ("know", (A,))))
        self.same(done(("know", (F, A, B))), done(("know", (B,)), ("know", (F, A, B)), ("know", (A,))))
        self.same(done(("tell", (A,), (B,))), done(("know", (B,)), ("tell", (A,), (B,))))
        self.same(done(("tell", (A,), (B,)), ("part", (G, A), (B,))), done(("part", (G, A), (B,)), ("tell", (A,), (B,))))

    def test_other_terms(self):
        self.differ(done(("know", (A,))), done(("know", (B,))))
        self.differ(done(("know", (G, A))), done(("know", (F, A, A))))

    def test_givens_and_unlikes_in_their_order(self):
        for word in ("tell", "part"):
            one, other = (word, (A,), (B,)), (word, (G, A), (B,))
            self.differ(done(one, other), done(other, one))
            self.differ(done(one, ("know", (G, A))), done(other))
            self.differ(done(one), done((word, (B,), (A,))))
            self.differ(done(one), done(one, one))
        self.differ(done(("tell", (A,), (B,))), done(("part", (A,), (B,))))
        self.differ(done(("tell", (A,), (B,))), done(("know", (A,)), ("know", (B,))))

    def test_levels_at_other_places(self):
        known, other, told, parted = ("know", (A,)), ("know", (B,)), ("tell", (A,), (A,)), ("part", (A,), (A,))
        push = ("push",)
        self.differ(done(known), done(known, push))
        self.differ(done(push, known), done(known, push))
        self.differ(done(known, push, other), done(other, push, known))
        self.same(done(known, other, push), done(other, known, push))
        self.differ(done(known, push, told), done(known, told, push))
        self.differ(done(known, push, parted), done(known, parted, push))
        self.differ(done(known, push, push, told), done(known, push, told, push))
        self.differ(done(push, push), done(push))
        self.same(done(push, known, push, told, parted), done(push, known, push, parted, told))
        self.differ(done(push, known, other, push), done(push, known, push, other))

    def test_same_many_known_but_other_terms_when_pushed(self):
        one = done(("know", (A,)), ("push",), ("know", (B,)), ("push",), ("know", (G, A)))
        other = done(("know", (B,)), ("push",), ("know", (A,)), ("push",), ("know", (G, A)))
        self.differ(one, other)
        one.back(2)
        other.back(2)
        self.differ(one, other)

    def test_behind_levels_taken_back(self):
        self.same(done(("push",), ("tell", (A,), (B,)), ("back",)), Book(SIGNS))
        self.same(done(("know", (A,)), ("push",), ("push",), ("know", (B,)), ("back", 2)), done(("know", (A,))))
        self.differ(done(("push",), ("push",), ("tell", (A,), (B,)), ("back",)), Book(SIGNS))

    def test_what_follows_does_not_count(self):
        known = [("know", (G, G, G, A))]
        one = done(*known, ("tell", (A,), (G, A)))
        self.differ(one, done(*known, ("tell", (G, A), (A,))))


class Twins(BookCase):
    def test_a_twin_is_another_book_that_is_equal(self):
        book = done(("tell", (A,), (B,)), ("push",), ("part", (A,), (G, A)), ("push",), ("know", (F, A, A)))
        twin = book.twin()
        self.assertIs(type(twin), Book)
        self.assertIsNot(twin, book)
        self.assertTrue(twin == book)
        self.assertEqual(state(twin), state(book))
        self.assertTrue(Book(SIGNS).twin() == Book(SIGNS))

    def test_each_goes_on_by_itself(self):
        for deed in (("know", (F, B, B)), ("tell", (A,), (G, B)), ("part", (A,), (G, B)), ("push",), ("back",), ("back", 2)):
            for turned in (False, True):
                book = done(("tell", (A,), (B,)), ("push",), ("part", (A,), (G, A)), ("push",), ("know", (F, A, A)))
                twin = book.twin()
                mover, other = (twin, book) if turned else (book, twin)
                before = state(other)
                getattr(mover, deed[0])(*deed[1:])
                self.assertEqual(state(other), before)
                self.assertFalse(mover == other)
                getattr(other, deed[0])(*deed[1:])
                self.assertTrue(mover == other)

    def test_both_taken_back(self):
        book = done(("know", (A,)), ("push",), ("tell", (A,), (B,)), ("push",))
        twin = book.twin()
        book.tell((G, A), (A,))
        twin.part((G, B), (A,))
        twin.push()
        self.assertFalse(book == twin)
        book.back()
        twin.back(2)
        self.assertTrue(book == twin)
        self.stands(book, [(A,), (B,)], [((A,), (B,))], [], 1)
        self.stands(twin, [(A,), (B,)], [((A,), (B,))], [], 1)
        book.back()
        self.assertTrue(twin.alike((A,), (B,)))
        self.assertFalse(book.alike((A,), (B,)))
        twin.back()
        self.assertTrue(book == twin)
        self.stands(twin, [(A,)], [], [], 0)
        self.refused(errors.NoLevel, {"left": 0}, twin.back)

    def test_two_books_have_nothing_in_common(self):
        one, other = Book(SIGNS), Book(SIGNS)
        one.tell((A,), (B,))
        one.push()
        self.stands(other, [], [], [], 0)
        self.assertFalse(other.alike((A,), (B,)))

    def test_drawn_twins(self):
        for seed in range(40):
            dice = random.Random(seed)
            book = Book(C_SIGNS)
            for one, other in drawn_pairs(dice, 4, C_SIGNS):
                if dice.randrange(2):
                    book.push()
                getattr(book, dice.choice(("tell", "part")))(one, other)
            twin, before = book.twin(), state(book)
            for one, other in drawn_pairs(dice, 3, C_SIGNS):
                twin.push()
                twin.tell(one, other)
            self.assertEqual(state(book), before)
            self.assertFalse(book == twin)
            twin.back(3)
            self.assertTrue(book == twin)
            self.assertEqual(state(twin), before)


if __name__ == "__main__":
    unittest.main()
