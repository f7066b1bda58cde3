"""Books, deed by deed: what is known, told, parted, pushed and taken back, the bounds, and what is refused."""

import random
import unittest

from helper import A, B, F, G, H, NO_SIGNS, NO_TERMS, SIGNS, BookCase, chain, chain_b, drawn_term, full_book
from helper import inner_terms, odd_things
from likenest import errors
from likenest.books import Book

NO_LEVELS = [0, -1, -12, True, False, None, "", "1", (), (1,), [], [1], {}, {1: 1}, 13, 10 ** 39, -(10 ** 39)]


class Deeds(BookCase):
    def test_at_first_none(self):
        self.stands(Book(SIGNS), [], [], [], 0)
        self.assertEqual(str(Book(SIGNS)), "Book of 0 terms, 0 givens, 0 unlikes, 0 levels")
        self.assertEqual(Book(signs=SIGNS).signs(), SIGNS)
        self.assertEqual(Book(SIGNS).classes(), [])

    def test_no_signs(self):
        for signs in NO_SIGNS + odd_things():
            self.refused(errors.NoSigns, {}, Book, signs)

    def test_know(self):
        book = Book(SIGNS)
        self.assertIsNone(book.know((F, G, A, B)))
        self.stands(book, [(A,), (B,), (G, A), (F, G, A, B)], [], [], 0)
        self.assertIsNone(book.know((G, A)))
        self.stands(book, [(A,), (B,), (G, A), (F, G, A, B)], [], [], 0)
        book.know(term=(H, A, A, A))
        self.stands(book, [(A,), (B,), (G, A), (F, G, A, B), (H, A, A, A)], [], [], 0)

    def test_tell_and_its_numbers(self):
        book = Book(SIGNS)
        for number in range(3):
            told = book.tell((G, A), (B,))
            self.assertEqual((type(told), told), (int, number))
        self.assertEqual(book.tell(other=(A,), one=(A,)), 3)
        self.stands(book, [(A,), (B,), (G, A)], [((G, A), (B,))] * 3 + [((A,), (A,))], [], 0)

    def test_part_and_its_numbers(self):
        book = Book(SIGNS)
        book.tell((A,), (B,))
        for number in range(3):
            told = book.part((G, A), (B,))
            self.assertEqual((type(told), told), (int, number))
        self.assertEqual(book.tell((A,), (A,)), 1)
        self.assertEqual(book.part(other=(G, B), one=(A,)), 3)
        self.stands(book, [(A,), (B,), (G, A), (G, B)], [((A,), (B,)), ((A,), (A,))],
                    [((G, A), (B,))] * 3 + [((A,), (G, B))], 0)

    def test_push_and_back(self):
        book = Book(SIGNS)
        book.tell((A,), (B,))
        self.assertIsNone(book.push())
        self.stands(book, [(A,), (B,)], [((A,), (B,))], [], 1)
        book.know((G, A))
        book.part((G, A), (A,))
        book.push()
        self.assertEqual(book.tell((G, B), (A,)), 1)
        self.stands(book, [(A,), (B,), (G, A), (G, B)], [((A,), (B,)), ((G, B), (A,))], [((G, A), (A,))], 2)
        self.assertIsNone(book.back())
        self.stands(book, [(A,), (B,), (G, A)], [((A,), (B,))], [((G, A), (A,))], 1)
        self.assertEqual(book.tell((B,), (B,)), 1)
        self.assertEqual(book.part((B,), (B,)), 1)
        book.back(1)
        self.stands(book, [(A,), (B,)], [((A,), (B,))], [], 0)
        self.assertEqual(book.part((B,), (B,)), 0)

    def test_back_by_several(self):
        for many in range(1, 7):
            book = Book(SIGNS)
            for level in range(6):
                book.know(chain(level + 1))
                book.push()
            book.know((B,))
            self.assertIsNone(book.back(levels=many))
            self.stands(book, [chain(level + 1) for level in range(7 - many)], [], [], 6 - many)

    def test_back_of_what_changed_nothing(self):
        book = Book(SIGNS)
        book.push()
        book.push()
        book.back(2)
        self.stands(book, [], [], [], 0)

    def test_what_was_known_ahead_is_known_still(self):
        book = Book(SIGNS)
        book.know((G, A))
        book.push()
        book.tell((G, A), (A,))
        book.part((G, G, A), (A,))
        book.back()
        self.stands(book, [(A,), (G, A)], [], [], 0)

    def test_back_refused(self):
        for stand in (0, 1, 2, 12):
            book = full_book()
            for level in range(stand):
                book.push()
            for wrong in NO_LEVELS + odd_things() + [stand + 1, stand + 2]:
                if type(wrong) is not int or wrong not in range(1, stand + 1):
                    self.unmoved(book, errors.NoLevel, {"left": stand}, book.back, wrong)
                    self.unmoved(book, errors.NoLevel, {"left": stand}, book.back, levels=wrong)
            if stand == 0:
                self.unmoved(book, errors.NoLevel, {"left": 0}, book.back)

    def test_no_term(self):
        book = Book(SIGNS)
        book.tell((A,), (G, B))
        book.push()
        for wrong in NO_TERMS + odd_things():
            for deed in (book.know, book.first):
                self.unmoved(book, errors.NoTerm, {"at": 0}, deed, wrong)
            for deed in (book.tell, book.part, book.alike):
                self.unmoved(book, errors.NoTerm, {"at": 0}, deed, wrong, (F, A, A))
                self.unmoved(book, errors.NoTerm, {"at": 1}, deed, (F, A, A), wrong)
                self.unmoved(book, errors.NoTerm, {"at": 0}, deed, wrong, wrong)
                self.unmoved(book, errors.NoTerm, {"at": 1}, deed, other=wrong, one=(A,))

    def test_drawn_histories(self):
        for seed in range(60):
            dice = random.Random(seed)
            book, deeds = Book(SIGNS), []
            for step in range(40):
                self.step(dice, book, deeds)
                givens = [told[1:] for told in deeds if told[0] == "tell"]
                unlikes = [told[1:] for told in deeds if told[0] == "part"]
                known = inner_terms(SIGNS, [term for told in deeds for term in told[1:]])
                self.stands(book, known, givens, unlikes, len([told for told in deeds if told[0] == "push"]))

    def step(self, dice, book, deeds):
        """Do a deed, and keep it in the list of those that stand."""
        word = dice.choice(["know", "tell", "tell", "part", "push", "back"])
        terms = tuple(drawn_term(dice, deep=3, most=7) for term in range({"know": 1, "tell": 2, "part": 2}.get(word, 0)))
        pushed = [place for place, told in enumerate(deeds) if told[0] == "push"]
        most = {"tell": 24, "part": 12, "push": 12}
        many = len([told for told in deeds if told[0] == word]) + 1
        known = inner_terms(SIGNS, [term for told in deeds for term in told[1:]] + list(terms))
        if word == "back":
            levels = dice.randrange(1, 4)
            if levels > len(pushed):
                self.unmoved(book, errors.NoLevel, {"left": len(pushed)}, book.back, levels)
            else:
                book.back(levels)
                del deeds[pushed[-levels]:]
        elif word in most and many > most[word]:
            self.unmoved(book, errors.TooMany, {"many": many, "most": most[word]}, getattr(book, word), *terms)
        elif len(known) > 40:
            self.unmoved(book, errors.TooMany, {"many": len(known), "most": 40}, getattr(book, word), *terms)
        else:
            told = getattr(book, word)(*terms)
            self.assertEqual(told, many - 1 if word in ("tell", "part") else None)
            deeds.append((word,) + terms)


class Bounds(BookCase):
    def test_forty_known_terms(self):
        book = full_book()
        self.assertEqual(len(book), 40)
        for term, many in (((F, A, A), 41), ((F, A, F, B, B), 42), (chain_b(11), 41), (chain_b(30), 60)):
            self.unmoved(book, errors.TooMany, {"many": many, "most": 40}, book.know, term)
            for deed in (book.tell, book.part):
                self.unmoved(book, errors.TooMany, {"many": many, "most": 40}, deed, term, (A,))
                self.unmoved(book, errors.TooMany, {"many": many, "most": 40}, deed, (A,), term)
                self.unmoved(book, errors.TooMany, {"many": many, "most": 40}, deed, term, term)
        book.know(chain(30))
        book.tell(chain(7), chain_b(9))
        book.part(chain(7), chain_b(10))
        self.assertEqual(len(book), 40)

    def test_forty_at_once(self):
        for word in ("tell", "part"):
            book = Book(SIGNS)
            self.unmoved(book, errors.TooMany, {"many": 41, "most": 40}, getattr(book, word), chain(30), chain_b(11))
            self.assertEqual(getattr(book, word)(chain(30), chain_b(10)), 0)
            self.assertEqual(len(book), 40)

    def test_inner_terms_counted_each_once(self):
        book = full_book()
        self.unmoved(book, errors.TooMany, {"many": 42, "most": 40}, book.tell, (F, A, A), (F, F, A, A, F, A, A))
        self.unmoved(book, errors.TooMany, {"many": 43, "most": 40}, book.part, (F, A, B), (F, B, F, B, B))
        book = Book(SIGNS)
        book.know(chain(30))
        book.know(chain_b(9))
        self.assertEqual(len(book), 39)
        self.assertEqual(book.tell((F, A, A), (F, A, A)), 0)
        self.assertEqual(len(book), 40)

    def test_room_is_there_again_behind_a_level(self):
        book = Book(SIGNS)
        book.know(chain(30))
        book.push()
        book.know(chain_b(10))
        self.unmoved(book, errors.TooMany, {"many": 41, "most": 40}, book.know, (F, A, A))
        book.back()
        book.know((F, A, A))
        self.assertEqual(len(book), 31)

    def test_twenty_four_givens(self):
        book = Book(SIGNS)
        self.assertEqual([book.tell((A,), (B,)) for given in range(24)], list(range(24)))
        self.unmoved(book, errors.TooMany, {"many": 25, "most": 24}, book.tell, (A,), (B,))
        self.assertEqual(book.part((A,), (B,)), 0)
        self.assertEqual(len(book.givens()), 24)

    def test_twelve_unlikes(self):
        book = Book(SIGNS)
        self.assertEqual([book.part((A,), (B,)) for unlike in range(12)], list(range(12)))
        self.unmoved(book, errors.TooMany, {"many": 13, "most": 12}, book.part, (A,), (B,))
        self.assertEqual(book.tell((A,), (B,)), 0)
        self.assertEqual(len(book.unlikes()), 12)

    def test_twelve_levels(self):
        book = Book(SIGNS)
        for level in range(12):
            self.assertEqual(book.levels(), level)
            book.push()
        self.unmoved(book, errors.TooMany, {"many": 13, "most": 12}, book.push)
        book.back()
        book.push()
        self.unmoved(book, errors.TooMany, {"many": 13, "most": 12}, book.push)
        book.back(12)
        self.assertEqual(book.levels(), 0)

    def test_a_given_or_an_unlike_ahead_of_the_terms(self):
        for word, most in (("tell", 24), ("part", 12)):
            book = full_book()
            deed = getattr(book, word)
            for pair in range(most):
                deed((A,), (B,))
            self.unmoved(book, errors.TooMany, {"many": most + 1, "most": most}, deed, (F, A, A), (F, B, B))
            self.unmoved(book, errors.TooMany, {"many": most + 1, "most": most}, deed, (A,), (A,))
            for wrong in NO_TERMS:
                self.unmoved(book, errors.NoTerm, {"at": 0}, deed, wrong, (F, B, B))
                self.unmoved(book, errors.NoTerm, {"at": 1}, deed, (F, B, B), wrong)
                self.unmoved(book, errors.NoTerm, {"at": 0}, book.know, wrong)


if __name__ == "__main__":
    unittest.main()
