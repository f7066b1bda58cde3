"""least, potentials and are_potentials, of books and rounds."""

import copy
import random
import unittest

from helper import A, B, C_SIGNS, F, G, H, NO_TERMS, SIGNS, BookCase, book_of, chain, chain_b, drawn_pairs, flat, full_book
from helper import is_number, odd_things, otherwise, slow_class_model, slow_worth, state, terms_to, tree_of
from likenest import errors
from likenest.books import Book
from likenest.least import are_potentials, least, potentials
from likenest.rounds import Rounds

NO_COSTS = [(), (1,) * 4, (1,) * 6, [1] * 5, (0, 1, 1, 1, 1), (1, 1, 1, 1, 100), (1, 1, True, 1, 1), (True,) * 5,
            (1, 1, 1, 1, None), (1, 1, 1, 1, "1"), (-1,) * 5, (1, 1, 1, 1, 10 ** 39), False, True, 0, 1, "11111", {},
            {0: 1, 1: 1, 2: 1, 3: 1, 4: 1}, ((1,) * 5,), (1, 1, 1, 1, (1,))]
ONES = (1, 1, 1, 1, 1)


def cost_of(costs, term):
    return sum(costs[number] for number in term)


def order(costs, term):
    return (cost_of(costs, term), len(term), term)


def slow_potentials(nest, costs, thing):
    """Whether they are potentials, of anything: rule by rule."""
    classes = nest.classes()
    if type(thing) is not tuple or len(thing) != len(classes):
        return False
    number_of = {}
    for terms, one in zip(classes, thing):
        if type(one) is not tuple or len(one) != 2 or type(one[0]) is not tuple or one[0] != terms[0]:
            return False
        if not all(is_number(number) for number in one[0]) or not is_number(one[1]) or one[1] < 0:
            return False
        for term in terms:
            number_of[term] = one[1]
    for term in number_of:
        parts = [flat(part) for part in tree_of(nest.signs(), term)[1:]]
        if number_of[term] > costs[term[0]] + sum(number_of[part] for part in parts):
            return False
    return True


def slow_least(nest, costs, terms):
    """For each class the least of these terms that has its worth in the model of the classes: a dict."""
    model = slow_class_model(nest.signs(), nest.classes())
    found = {}
    for term in terms:
        worth = slow_worth(nest.signs(), model, term)
        if worth not in found or order(costs, term) < order(costs, found[worth]):
            found[worth] = term
    return found


class LeastCase(BookCase):
    def held(self, nest, costs=None):
        """What is told of each known term costs so, is alike, and nothing alike costs less: told by class, a list."""
        signs, classes = nest.signs(), nest.classes()
        worth = (1,) * len(signs) if costs is None else costs
        model = slow_class_model(signs, classes)
        told = []
        for place, terms in enumerate(classes):
            found = least(nest, terms[0], costs=costs)
            self.assertEqual((type(found), len(found), type(found[0]), type(found[1])), (tuple, 2, int, tuple))
            self.assertEqual(found[0], cost_of(worth, found[1]))
            self.assertEqual(slow_worth(signs, model, found[1]), place)
            self.assertLessEqual(order(worth, found[1]), min(order(worth, term) for term in terms))
            for term in terms:
                self.assertEqual(least(nest, term, costs=costs), found)
            told.append(found)
        paper = potentials(nest, costs=costs)
        self.assertEqual(paper, tuple((terms[0], found[0]) for terms, found in zip(classes, told)))
        self.assertTrue(slow_potentials(nest, worth, paper))
        self.assertIs(are_potentials(nest, paper, costs=costs), True)
        return told


class Least(LeastCase):
    def test_of_a_term_alone(self):
        book = Book(SIGNS)
        for term in ((A,), (G, B), (F, A, G, B), (H, A, B, A)):
            book.know(term)
            self.assertEqual(least(book, term), (len(term), term))
            self.assertEqual(least(book, term, costs=None), (len(term), term))
            self.assertEqual(least(book, term, costs=(3, 5, 7, 11, 99)), (cost_of((3, 5, 7, 11, 99), term), term))
        self.held(book)

    def test_the_first_in_order(self):
        book = book_of([((A,), (B,)), ((G, A), (F, A, A))])
        self.assertEqual(least(book, (B,)), (1, (A,)))
        self.assertEqual(least(book, (F, A, A)), (2, (G, A)))
        # Of the same cost the one with fewer numbers is ahead, then the lesser one.
        self.assertEqual(least(book, (G, A), costs=(1, 1, 2, 1, 1)), (3, (G, A)))
        self.assertEqual(least(book, (G, A), costs=(1, 1, 3, 1, 1)), (3, (F, A, A)))
        self.assertEqual(least(book, (A,), costs=(2, 2, 1, 1, 1)), (2, (A,)))
        self.assertEqual(least(book, (A,), costs=(2, 1, 1, 1, 1)), (1, (B,)))
        self.assertEqual(least(book, (G, A), costs=(2, 1, 1, 1, 1)), (2, (G, B)))

    def test_fewer_numbers_go_ahead_of_lesser_ones(self):
        signs = (("g", 1), ("a", 0), ("b", 0), ("f", 2))
        book = book_of([((0, 0, 1), (3, 2, 2))], signs)
        # g(g(a)) and f(b, b) cost three each, and have as many numbers.
        self.assertEqual(least(book, (3, 2, 2)), (3, (0, 0, 1)))
        self.assertEqual(least(book, (3, 2, 2), costs=(2, 1, 1, 3)), (5, (0, 0, 1)))
        book = book_of([((0, 0, 0, 1), (3, 2, 2))], signs)
        self.assertEqual(least(book, (3, 2, 2), costs=(1, 1, 1, 2)), (4, (3, 2, 2)))

    def test_terms_that_are_not_known(self):
        book = book_of([((G, A), (B,)), ((F, G, A, G, A), (H, B, A, B))])
        self.assertEqual(least(book, (F, G, A, G, A)), (3, (F, B, B)))
        self.assertEqual(least(book, (H, B, A, B), costs=(1, 9, 1, 9, 3)), (8, (H, G, A, A, G, A)))
        self.assertEqual(book.known(), [(A,), (B,), (G, A), (H, B, A, B), (F, G, A, G, A)])

    def test_through_a_ring(self):
        book = book_of([((G, G, A), (A,)), ((F, A, G, A), (G, A))])
        self.assertEqual(least(book, (G, G, A)), (1, (A,)))
        self.assertEqual(least(book, (G, A), costs=(99, 1, 1, 1, 1)), (100, (G, A)))
        book.tell((G, B), (A,))
        self.assertEqual(least(book, (A,), costs=(99, 1, 1, 1, 1)), (2, (G, B)))
        self.assertEqual(least(book, (G, A), costs=(99, 1, 1, 1, 1)), (3, (G, G, B)))

    def test_costs_of_1_and_99(self):
        book = book_of([((G, G, G, A), (B,)), ((F, A, A), (G, A))])
        for costs in ((1,) * 5, (99,) * 5, (99, 1, 99, 1, 99), (1, 99, 1, 99, 1), (1, 1, 1, 1, 99), (99, 1, 1, 1, 1)):
            self.held(book, costs)
        self.assertEqual(least(book, (G, G, G, A), costs=(99,) * 5), (99, (B,)))
        self.assertEqual(least(book, (B,), costs=(1, 99, 1, 1, 1)), (4, (G, G, G, A)))
        self.assertEqual(least(book, (B,), costs=(98, 99, 1, 1, 1)), (99, (B,)))
        self.assertEqual(least(book, (B,), costs=(96, 99, 1, 1, 1)), (99, (B,)))
        self.assertEqual(least(book, (B,), costs=(95, 99, 1, 1, 1)), (98, (G, G, G, A)))

    def test_longer_than_thirty_numbers(self):
        book = book_of([(chain(30), (B,)), (chain_b(9), (F, A, B))])
        costs = (1, 99, 1, 99, 1)
        self.assertEqual(least(book, (B,), costs=costs), (30, chain(30)))
        self.assertEqual(least(book, (G, B), costs=costs), (31, chain(31)))
        self.assertEqual(least(book, (F, A, B), costs=costs), (38, chain(38)))
        self.assertEqual(least(book, chain_b(9), costs=costs), (38, chain(38)))
        self.held(book, costs)
        self.assertEqual(least(book, chain_b(9)), (3, (F, A, B)))

    def test_many_times_longer_than_thirty_numbers(self):
        # b is g(..g(a)) of 15 numbers, c is h of b thrice, and so on.
        signs = (("a", 0), ("b", 0), ("c", 0), ("d", 0), ("g", 1), ("h", 3))
        book = book_of([((4,) * 9 + (0,), (1,)), ((5, 1, 1, 1), (2,)), ((5, 2, 2, 2), (3,))], signs)
        costs = (1, 99, 99, 99, 1, 1)
        self.assertEqual(least(book, (2,), costs=costs), (31, (5,) + ((4,) * 9 + (0,)) * 3))
        self.assertEqual(least(book, (3,), costs=costs), (94, (5,) + ((5,) + ((4,) * 9 + (0,)) * 3) * 3))
        self.assertEqual(len(least(book, (3,), costs=costs)[1]), 94)
        self.held(book, costs)

    def test_in_whatever_order_classes_stand(self):
        # Each class is made less by the one behind it in order.
        signs = (("a", 0), ("b", 0), ("c", 0), ("d", 0), ("e", 0), ("g", 1), ("i", 0))
        book = book_of([((0,), (5, 1)), ((1,), (5, 2)), ((2,), (5, 3)), ((3,), (5, 4)), ((4,), (5, 6))], signs)
        costs = (99, 98, 97, 96, 95, 1, 1)
        self.assertEqual(least(book, (0,), costs=costs), (6, (5, 5, 5, 5, 5, 6)))
        self.held(book, costs)

    def test_of_a_full_book(self):
        book = full_book()
        book.tell((A,), (B,))
        self.assertEqual(least(book, chain_b(10), costs=(2, 1, 99, 1, 1)), (99 * 9 + 1, chain_b(10)))
        self.held(book, (99, 98, 99, 1, 1))

    def test_unlikes_and_levels_turn_nothing(self):
        book = book_of([((G, A), (B,))])
        book.push()
        book.part((G, A), (B,))
        self.assertEqual(least(book, (G, A)), (1, (B,)))
        book.tell((A,), (B,))
        self.assertEqual(least(book, (G, A)), (1, (A,)))
        book.back()
        self.assertEqual(least(book, (G, A)), (1, (B,)))

    def test_of_rounds(self):
        book = Book(SIGNS)
        book.know((F, A, G, G, B))
        rounds = Rounds(book, (((F, -1, -2), (F, -2, -1)), ((G, G, -1), (-1,)), ((F, -1, A), (-1,))))
        self.assertEqual(least(rounds, (F, A, G, G, B)), (5, (F, A, G, G, B)))
        self.held(rounds)
        for turn in range(5):
            rounds.go()
            for costs in (None, (1, 99, 1, 1, 1), (99, 99, 1, 2, 1)):
                self.held(rounds, costs)
        self.assertEqual(least(rounds, (F, A, G, G, B)), (1, (B,)))
        self.assertEqual(least(book, (F, A, G, G, B)), (5, (F, A, G, G, B)))

    def test_drawn_books_against_all_short_terms(self):
        short = terms_to(5, C_SIGNS)
        for seed in range(60):
            dice = random.Random(seed)
            book = book_of(drawn_pairs(dice, dice.randrange(1, 7), C_SIGNS), C_SIGNS)
            nest = book
            if seed % 3 == 0:
                nest = Rounds(book, (((5, -1, -2), (5, -2, -1)), ((4, -1), (5, -1, -1))))
                nest.go_on(2)
            for costs in (None, (1,) * 6, tuple(dice.randrange(1, 5) for sign in C_SIGNS),
                          tuple(dice.choice((1, 99)) for sign in C_SIGNS)):
                before = nest.classes(), str(nest)
                told = self.held(nest, costs)
                worth = costs or (1,) * 6
                best = slow_least(nest, worth, short)
                for place, found in enumerate(told):
                    if place in best:
                        self.assertLessEqual(order(worth, found[1]), order(worth, best[place]))
                    if len(found[1]) <= 5:
                        self.assertEqual(found[1], best[place])
                self.assertEqual((nest.classes(), str(nest)), before)

    def test_by_name(self):
        book = book_of([((G, A), (B,))])
        self.assertEqual(least(costs=ONES, term=(G, A), nest=book), (1, (B,)))
        self.assertEqual(least(nest=book, term=(G, A)), (1, (B,)))

    def test_refusals_in_their_order(self):
        book = book_of([((G, A), (B,))])
        rounds = Rounds(book)
        for nest in (book, rounds):
            for wrong in NO_TERMS + odd_things():
                for costs in (None, ONES, ()):
                    self.refused(errors.NoTerm, {"at": 0}, least, nest, wrong, costs=costs)
            for term in ((G, B), (F, A, A), chain(30)):
                for costs in (None, ONES, (), 0):
                    self.refused(errors.NotKnown, {"term": term}, least, nest, term, costs=costs)
            for costs in NO_COSTS + odd_things():
                if costs is not None:
                    self.refused(errors.NoCosts, {}, least, nest, (G, A), costs=costs)
        self.refused(errors.NotKnown, {"term": (A,)}, least, Book(SIGNS), (A,))
        self.assertEqual(state(book), state(book_of([((G, A), (B,))])))


class Potentials(LeastCase):
    def test_by_hand(self):
        book = book_of([((G, A), (B,)), ((F, A, B), (H, A, A, A))])
        paper = (((A,), 1), ((B,), 1), ((F, A, B), 3))
        self.assertEqual(potentials(book), paper)
        self.assertEqual(potentials(book, costs=None), paper)
        self.assertEqual(potentials(nest=book, costs=(5, 9, 1, 1, 1)), (((A,), 5), ((B,), 6), ((F, A, B), 12)))
        self.assertEqual(potentials(Book(SIGNS)), ())
        self.assertEqual(potentials(Book(SIGNS), costs=ONES), ())

    def test_those_that_are_less(self):
        book = book_of([((G, A), (B,)), ((F, A, B), (H, A, A, A))])
        for one in range(3):
            for other in range(3):
                for third in range(5):
                    thing = (((A,), one), ((B,), other), ((F, A, B), third))
                    self.assertIs(are_potentials(book, thing), slow_potentials(book, ONES, thing), thing)
        self.assertIs(are_potentials(book, (((A,), 0), ((B,), 0), ((F, A, B), 0))), True)
        self.assertIs(are_potentials(book, (((A,), 0), ((B,), 1), ((F, A, B), 1))), True)
        self.assertIs(are_potentials(book, (((A,), 0), ((B,), 1), ((F, A, B), 2))), False)

    def test_each_known_term_counts(self):
        book = book_of([((G, A), (B,)), ((B,), (F, A, A))])
        for costs in (ONES, (9, 30, 20, 4, 1), (9, 30, 2, 40, 1), (9, 5, 20, 20, 1), (99,) * 5):
            edge = min(costs[B], costs[G] + costs[A], costs[F] + 2 * costs[A])
            for number in (edge - 1, edge, edge + 1):
                self.assertIs(are_potentials(book, (((A,), costs[A]), ((B,), number)), costs=costs), number <= edge)
            self.assertIs(are_potentials(book, (((A,), costs[A] + 1), ((B,), 0)), costs=costs), False)

    def test_a_ring(self):
        # g(a) is a: no number can be so great that it isn't bound by what a costs itself.
        book = book_of([((G, A), (A,))])
        self.assertIs(are_potentials(book, (((A,), 1),)), True)
        self.assertIs(are_potentials(book, (((A,), 2),)), False)

    def test_from_0_on(self):
        book = Book(SIGNS)
        book.know((A,))
        for number in (-2, -1, 0, 1, 2, -(10 ** 39), 10 ** 39):
            self.assertIs(are_potentials(book, (((A,), number),)), number in (0, 1))

    def test_no_term_costs_less_than_its_class_s_number(self):
        short = terms_to(5, C_SIGNS)
        for seed in range(40):
            dice = random.Random(seed)
            book = book_of(drawn_pairs(dice, 5, C_SIGNS), C_SIGNS)
            costs = tuple(dice.randrange(1, 100) for sign in C_SIGNS)
            classes = book.classes()
            model = slow_class_model(C_SIGNS, classes)
            thing = tuple((first, max(0, number - dice.randrange(60))) for first, number in potentials(book, costs=costs))
            if are_potentials(book, thing, costs=costs):
                for term in short:
                    worth = slow_worth(C_SIGNS, model, term)
                    if worth < len(classes):
                        self.assertGreaterEqual(cost_of(costs, term), thing[worth][1])

    def test_shapes(self):
        book = book_of([((G, A), (B,))])
        fine = (((A,), 1), ((B,), 1))
        self.assertIs(are_potentials(book, fine), True)
        self.assertIs(are_potentials(thing=fine, nest=book, costs=ONES), True)
        for wrong in (fine[:1], fine + fine[1:], fine[::-1], list(fine), (list(fine[0]), fine[1]), (fine[0], ([B], 1)),
                      (fine[0], ((G, A), 1)), (((True,), 1), fine[1]), (((False,), 1), fine[1]), (fine[0], ((True,), 1)),
                      (((A,), True), fine[1]), (((A,), False), fine[1]), (((A,), -1), fine[1]), (((A,), "1"), fine[1]),
                      (((A,), 1, 1), fine[1]), (((A,),), fine[1]), (((A,), None), fine[1]), ((A, 1), fine[1]), (), None, 0,
                      "ab", {}, {0: fine[0], 1: fine[1]}, (((A,), (1,)), fine[1]), ((1, (A,)), fine[1])):
            self.assertIs(are_potentials(book, wrong), False, wrong)
        self.assertIs(are_potentials(Book(SIGNS), ()), True)
        for wrong in (((),), fine, [], None, {}):
            self.assertIs(are_potentials(Book(SIGNS), wrong), False)

    def test_one_thing_otherwise_at_any_depth(self):
        book = book_of([((G, A), (B,)), ((F, A, G, B), (H, A, A, B)), ((G, B), (F, B, B))])
        rounds = Rounds(book, (((F, -1, -2), (F, -2, -1)),))
        rounds.go_on()
        told = []
        for nest in (book, rounds):
            for costs in (ONES, (7, 3, 99, 1, 2)):
                paper = potentials(nest, costs=costs)
                handed = copy.deepcopy(paper)
                for wrong in otherwise(paper):
                    told.append(slow_potentials(nest, costs, wrong))
                    self.assertIs(are_potentials(nest, wrong, costs=costs), told[-1], wrong)
                self.assertEqual(paper, handed)
        self.assertGreater(told.count(False), 300)
        self.assertGreater(told.count(True), 10)

    def test_anything(self):
        book = book_of([((G, A), (B,))])
        fine = (((A,), 1), ((B,), 1))
        for nest in (book, Rounds(book), Book(SIGNS)):
            for thing in odd_things():
                self.assertIs(are_potentials(nest, thing), thing == () and len(nest) == 0)
                for whole in ((thing, fine[1]), (fine[0], thing), ((thing, 1), fine[1]), (((A,), thing), fine[1])):
                    self.assertIs(are_potentials(nest, whole), slow_potentials(nest, ONES, whole), repr(whole)[:200])

    def test_no_costs_ahead_of_the_thing(self):
        book = book_of([((G, A), (B,))])
        for nest in (book, Rounds(book), Book(SIGNS)):
            for costs in NO_COSTS + odd_things():
                if costs is not None:
                    self.refused(errors.NoCosts, {}, potentials, nest, costs=costs)
                    for thing in ((((A,), 1), ((B,), 1)), (), None):
                        self.refused(errors.NoCosts, {}, are_potentials, nest, thing, costs=costs)

    def test_costs_go_by_name_alone(self):
        book = book_of([((G, A), (B,))])
        for function, told in ((least, (book, (A,))), (potentials, (book,)), (are_potentials, (book, ()))):
            with self.assertRaises(TypeError):
                function(*told, ONES)


if __name__ == "__main__":
    unittest.main()
