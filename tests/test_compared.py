"""compared: whether two books say the same, with lines for each given, or a model in which one doesn't hold."""

import random
import unittest

from helper import A, B, C_SIGNS, F, G, H, SIGNS, BookCase, are_lean, book_of, chain, chain_b, drawn_pairs, full_book
from helper import slow_labels, slow_model, slow_pairs, slow_worth, state
from likenest import errors
from likenest.books import Book
from likenest.compared import compared
from likenest.lines import are_lines_for
from likenest.models import is_model


def first_not(by, asked):
    """The number of the first given of the book asked that isn't alike by the other, None where all are."""
    for number, (one, other) in enumerate(asked.givens()):
        labels = slow_labels(by.signs(), by.givens(), (one, other))
        if labels[one] != labels[other]:
            return number
    return None


class Compared(BookCase):
    def told(self, one, other):
        """What is told is looked through slowly, the books stay as they were; told is how it begins."""
        before = state(one), state(other)
        paper = compared(one, other)
        self.assertIs(type(paper), tuple)
        wanted = [(side, number) for side, number in ((0, first_not(one, other)), (1, first_not(other, one)))
                  if number is not None]
        if wanted:
            self.assertEqual((len(paper), paper[:3]), (4, ("not",) + wanted[0]))
            self.differs(*((one, other) if wanted[0][0] == 0 else (other, one)), *paper[2:])
        else:
            self.assertEqual((len(paper), paper[0]), (3, "same"))
            self.same(one, other, paper[1])
            self.same(other, one, paper[2])
        self.assertEqual(compared(one, other), paper)
        self.assertEqual((state(one), state(other)), before)
        return paper[:3] if wanted else paper[:1]

    def same(self, by, asked, papers):
        """For each given of the book asked there are lines by the other one."""
        self.assertEqual((type(papers), len(papers)), (tuple, len(asked.givens())))
        grounds = (by.signs(), by.givens(), ())
        for pair, lines in zip(asked.givens(), papers):
            self.assertEqual(slow_pairs(grounds, lines)[-1], pair)
            self.assertTrue(are_lean(grounds, lines))
            self.assertIs(are_lines_for(by.signs(), by.givens(), lines, *pair), True)

    def differs(self, by, asked, number, model):
        """In the model all givens of the one hold, and that of the book asked doesn't."""
        self.assertTrue(slow_model(by.signs(), model))
        for left, right in by.givens():
            self.assertEqual(slow_worth(by.signs(), model, left), slow_worth(by.signs(), model, right))
        left, right = asked.givens()[number]
        self.assertNotEqual(slow_worth(by.signs(), model, left), slow_worth(by.signs(), model, right))
        self.assertIs(is_model(by.signs(), by.givens(), model, unlikes=((left, right),)), True)

    def test_without_givens(self):
        self.assertEqual(compared(Book(SIGNS), Book(SIGNS)), ("same", (), ()))
        self.assertEqual(compared(full_book(), Book(SIGNS)), ("same", (), ()))

    def test_one_without_givens(self):
        book = book_of([((A,), (A,)), ((A,), (B,))])
        self.assertEqual(self.told(Book(SIGNS), book), ("not", 0, 1))
        self.assertEqual(self.told(book, Book(SIGNS)), ("not", 1, 1))
        self.assertEqual(compared(book_of([((G, A), (G, A))]), Book(SIGNS)), ("same", (), ((("self", (G, A)),),)))
        self.assertEqual(compared(Book(SIGNS), book_of([((G, A), (G, A))])), ("same", ((("self", (G, A)),),), ()))

    def test_turned_about(self):
        one, other = book_of([((A,), (B,)), ((G, A), (B,))]), book_of([((B,), (G, A)), ((B,), (A,))])
        self.assertEqual(self.told(one, other), ("same",))
        turned = (("given", 1), ("turned", 0)), (("given", 0), ("turned", 0))
        self.assertEqual(compared(one, other), ("same", turned, turned))

    def test_itself_and_its_twin(self):
        book = book_of([((A,), (B,)), ((A,), (B,)), ((G, A), (A,))])
        for other in (book, book.twin()):
            self.assertEqual(self.told(book, other), ("same",))
            self.assertEqual([len(papers) for papers in compared(book, other)[1:]], [3, 3])

    def test_more_givens_that_say_no_more(self):
        one = book_of([((G,) * 5 + (A,), (A,)), ((G,) * 3 + (A,), (A,))])
        other = book_of([((G, A), (A,))])
        self.assertEqual(self.told(one, other), ("same",))
        self.assertEqual(self.told(other, one), ("same",))
        self.assertEqual([len(papers) for papers in compared(one, other)[1:]], [1, 2])
        self.assertEqual([len(papers) for papers in compared(other, one)[1:]], [2, 1])

    def test_side_0_goes_first(self):
        one, other = book_of([((A,), (G, A))]), book_of([((A,), (B,))])
        self.assertEqual(self.told(one, other), ("not", 0, 0))
        self.assertEqual(self.told(other, one), ("not", 0, 0))

    def test_side_1(self):
        one, other = book_of([((A,), (B,)), ((G, B), (G, A)), ((G, A), (A,))]), book_of([((B,), (A,))])
        self.assertEqual(self.told(one, other), ("not", 1, 2))
        self.assertEqual(self.told(other, one), ("not", 0, 2))

    def test_the_first_that_fails(self):
        one = book_of([((A,), (B,))])
        other = book_of([((G, A), (G, B)), ((F, A, B), (F, B, A)), ((F, A, A), (A,)), ((A,), (B,)), ((G, A), (A,))])
        self.assertEqual(self.told(one, other), ("not", 0, 2))
        self.assertEqual(self.told(other, one), ("not", 1, 2))

    def test_what_is_known_parted_and_pushed_counts_for_nothing(self):
        one, other = book_of([((A,), (B,))]), book_of([((B,), (A,))])
        other.part((A,), (B,))
        other.know(chain(20))
        other.push()
        self.assertEqual(self.told(one, other), ("same",))
        other.tell((G, A), (A,))
        self.assertEqual(self.told(one, other), ("not", 0, 1))
        other.back()
        self.assertEqual(self.told(one, other), ("same",))

    def test_terms_that_the_other_book_does_not_know(self):
        one, other = full_book(), book_of([((H,) + chain(9) + chain(9) + chain(9), (H,) + chain_b(9) + chain(9) + chain(9))])
        self.assertEqual(self.told(one, other), ("not", 0, 0))
        self.assertEqual(self.told(other, one), ("not", 1, 0))
        one.tell((A,), (B,))
        self.assertEqual(self.told(one, other), ("not", 1, 0))

    def test_twenty_four_givens(self):
        one = book_of([(chain(many), chain(many + 1)) for many in range(1, 25)])
        other = book_of([(chain(many + 1), (A,)) for many in range(24, 0, -1)])
        self.assertEqual(self.told(one, other), ("same",))
        fewer = book_of(one.givens()[:-1])
        self.assertEqual(self.told(fewer, one), ("same",))
        fewer = book_of([(chain(25), chain(24))])
        self.assertEqual(self.told(fewer, one), ("not", 0, 0))
        self.assertEqual(self.told(one, fewer), ("not", 1, 0))

    def test_drawn_books(self):
        seen = {}
        for seed in range(150):
            dice = random.Random(seed)
            pairs = drawn_pairs(dice, dice.randrange(0, 6), C_SIGNS)
            changed = [dice.choice((pair, pair[::-1])) for pair in dice.sample(pairs, len(pairs))]
            if seed % 3:
                changed = changed[dice.randrange(2):] + list(drawn_pairs(dice, dice.randrange(2), C_SIGNS))
            word = self.told(book_of(pairs, C_SIGNS), book_of(changed, C_SIGNS))
            seen[word[:2]] = seen.get(word[:2], 0) + 1
        self.assertEqual(set(seen), {("same",), ("not", 0), ("not", 1)})
        self.assertGreater(min(seen.values()), 9)

    def test_by_name(self):
        one, other = book_of([((A,), (B,))]), book_of([((A,), (B,)), ((G, A), (A,))])
        self.assertEqual(compared(other=other, one=one)[:3], ("not", 0, 1))
        self.assertEqual(compared(other=one, one=other)[:3], ("not", 1, 1))

    def test_signs_that_differ(self):
        for signs in (SIGNS[:4], SIGNS + (("c", 0),), SIGNS[::-1], (("b", 0), ("a", 0)) + SIGNS[2:], (("a", 0),), C_SIGNS,
                      SIGNS[:4] + (("h", 2),), SIGNS[:4] + (("k", 3),)):
            for one, other in ((Book(SIGNS), Book(signs)), (Book(signs), Book(SIGNS))):
                self.refused(errors.NoSigns, {}, compared, one, other)
                bare = [number for number, (name, parts) in enumerate(one.signs()) if parts == 0][0]
                one.tell((bare,), (bare,))
                before = state(one), state(other)
                self.refused(errors.NoSigns, {}, compared, one, other)
                self.assertEqual((state(one), state(other)), before)

    def test_signs_that_are_the_same_but_another_tuple(self):
        self.assertEqual(compared(Book(SIGNS), Book(tuple([tuple(list(sign)) for sign in SIGNS]))), ("same", (), ()))


if __name__ == "__main__":
    unittest.main()
