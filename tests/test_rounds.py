"""Rounds: what comes of rules, round by round, held against a slow way that works by the words of the document."""

import random
import unittest

from helper import A, B, C_SIGNS, F, G, H, NO_TERMS, SIGNS, BookCase, book_of, chain, chain_b, drawn_pairs, full_book
from helper import inner_terms, odd_things, ordered, slow_classes, slow_matches, state
from likenest import errors
from likenest.books import Book
from likenest.patterns import matches
from likenest.rounds import Rounds

SWAP = ((F, -1, -2), (F, -2, -1))
TWICE = ((G, G, -1), (-1,))
GROW = ((G, -1), (G, G, -1))
NO_RULES = [[SWAP], (list(SWAP),), SWAP, (SWAP[:1],), (((-1,), (A,)),), (((G, -1), (-2,)),), (SWAP,) * 7, None, 0, "", {},
            ((SWAP[0], (5,)),), (None,), (SWAP, None), (((F, -2, -1), (A,)),), (((True, -1), (A,)),)]
NO_MOSTS = [0, -1, 61, 62, 10 ** 39, -(10 ** 39), True, False, None, "1", "", (), (1,), [], [1], {}]


class Slow:
    """Rounds by the words of the document, by slow ways alone."""

    def __init__(self, book, rules, most=60):
        self.own = book.signs()
        self.pairs = list(book.givens())
        self.terms = set(book.known())
        self.rules, self.most, self.word, self.done = rules, most, "begun", 0

    def signs(self):
        return self.own

    def classes(self):
        return slow_classes(self.own, self.pairs, self.terms)

    def go(self):
        if self.word in ("still", "full"):
            return 0
        firsts = {term: terms[0] for terms in self.classes() for term in terms}
        found = []
        for left, right in self.rules:
            for match in slow_matches(self, left):
                found.append(tuple(sum((match[-n] if n < 0 else (n,) for n in side), ()) for side in (left, right)))
        new = [pair for pair in found
               if not set(pair) <= set(firsts) or firsts[pair[0]] != firsts[pair[1]]]
        if not new:
            self.word = "still"
            return 0
        sides = [side for pair in found for side in pair]
        grown = self.terms | inner_terms(self.own, sides)
        if max(len(side) for side in sides) > 30 or len(grown) > self.most:
            self.word = "full"
            return 0
        self.terms, self.pairs = grown, self.pairs + found
        self.word, self.done = "going", self.done + 1
        return len(new)


class RoundsCase(BookCase):
    def same(self, rounds, slow):
        """All that is told is as the slow way has it, in values of the kinds that are told."""
        classes = slow.classes()
        self.assertEqual(rounds.word(), slow.word)
        self.assertEqual((type(rounds.done()), rounds.done()), (int, slow.done))
        self.assertEqual((type(rounds.known()), rounds.known()), (list, ordered(slow.terms)))
        self.assertEqual((type(rounds.classes()), rounds.classes()), (list, classes))
        self.assertEqual(len(rounds), len(slow.terms))
        self.assertEqual(str(rounds), f"Rounds {slow.word} after {slow.done}, {len(slow.terms)} terms")
        self.assertEqual(rounds.signs(), slow.own)
        for terms in classes:
            for term in terms:
                self.assertEqual(rounds.first(term), terms[0])
                self.assertIs(rounds.alike(term, terms[0]), True)
                self.assertIs(rounds.alike(classes[0][0], term), terms == classes[0])

    def gone(self, rounds, told):
        """So many are new, one round after the other; told by go."""
        for number in told:
            many = rounds.go()
            self.assertEqual((type(many), many), (int, number), str(rounds))

    def both(self, book, rules, told, most=60):
        """Rounds that tell these numbers, and the slow way does, too."""
        rounds, slow = Rounds(book, rules, most=most), Slow(book, rules, most)
        self.same(rounds, slow)
        for number in told:
            self.assertEqual(slow.go(), number)
            self.gone(rounds, [number])
            self.same(rounds, slow)
        return rounds

    def telling(self, rounds):
        """All that is told of rounds without a term."""
        return (rounds.word(), rounds.done(), rounds.known(), rounds.classes(), len(rounds), str(rounds), rounds.signs())

    def unturned(self, rounds, error, fields, function, *told, **named):
        """Refused so, and the rounds are as they were."""
        before = self.telling(rounds)
        self.refused(error, fields, function, *told, **named)
        self.assertEqual(self.telling(rounds), before)


class Rounded(RoundsCase):
    def test_at_first(self):
        rounds = Rounds(Book(SIGNS))
        self.assertEqual((rounds.word(), rounds.done(), rounds.known(), rounds.classes()), ("begun", 0, [], []))
        self.assertEqual((len(rounds), str(rounds), rounds.signs()), (0, "Rounds begun after 0, 0 terms", SIGNS))
        book = book_of([((A,), (G, A))])
        self.assertEqual(str(Rounds(book, (SWAP,))), "Rounds begun after 0, 2 terms")
        self.same(Rounds(book, (SWAP,)), Slow(book, (SWAP,)))

    def test_without_rules(self):
        book = book_of([((A,), (G, A)), ((F, A, B), (B,))])
        for rounds in (Rounds(book), Rounds(book, ()), Rounds(book, rules=())):
            self.gone(rounds, [0])
            self.assertEqual((rounds.word(), rounds.done(), len(rounds)), ("still", 0, 4))
        self.both(book, (), [0, 0, 0])

    def test_of_an_empty_book(self):
        self.assertEqual(str(self.both(Book(SIGNS), (SWAP, TWICE, GROW), [0, 0])), "Rounds still after 0, 0 terms")

    def test_swapped(self):
        book = Book(SIGNS)
        book.know((F, A, B))
        rounds = self.both(book, (SWAP,), [1, 0, 0])
        self.assertEqual((rounds.word(), rounds.done()), ("still", 1))
        self.assertEqual(rounds.classes(), [[(A,)], [(B,)], [(F, A, B), (F, B, A)]])

    def test_one_that_is_not_new_is_not_counted(self):
        book = Book(SIGNS)
        book.know((F, A, A))
        self.both(book, (SWAP,), [0])
        book.tell((F, A, B), (F, B, A))
        self.both(book, (SWAP,), [0])
        book.know((G, F, B, A))
        self.both(book, (SWAP, ((G, -1), (-1,))), [1, 0])

    def test_sides_that_are_known_and_not_alike(self):
        book = Book(SIGNS)
        book.know((G, G, A))
        # Behind the first round g(g(g(a))) is of the class of g(a), and isn't known.
        rounds = self.both(book, (TWICE,), [1, 1, 0])
        self.assertEqual(rounds.classes(), [[(A,), (G, G, A)], [(G, A), (G, G, G, A)]])
        book.know((F, A, B))
        book.know((F, B, A))
        self.both(book, (SWAP,), [2, 0])

    def test_sides_that_are_alike_and_not_known(self):
        book = book_of([((A,), (B,))])
        book.know((G, B))
        # The class of b has a as its first one, so the sides are g(a) and g(a).
        rounds = self.both(book, (((G, -1), (G, -1)),), [1, 0])
        self.assertEqual(rounds.classes(), [[(A,), (B,)], [(G, A), (G, B)]])

    def test_a_rule_without_letters(self):
        book = Book(SIGNS)
        book.know((G, A))
        self.both(book, (((G, A), (B,)),), [1, 0])
        self.both(book, (((G, B), (A,)),), [0])
        self.both(book, (((A,), (F, A, A)),), [1, 0])
        self.both(book, (((A,), (B,)), ((G, B), (A,))), [1, 1, 0])

    def test_a_rule_told_twice_counts_each_time(self):
        book = Book(SIGNS)
        book.know((F, A, B))
        self.both(book, (SWAP,), [1, 0])
        self.both(book, (SWAP, SWAP), [2, 0])
        self.both(book, (SWAP,) * 6, [6, 0])

    def test_the_same_pair_by_two_matches_counts_each_time(self):
        book = Book(SIGNS)
        book.know((F, A, B))
        book.know((F, B, A))
        # Both matches have the same two sides.
        self.both(book, (((F, -1, -2), (A,)),), [2, 0])
        book.know((G, A))
        self.both(book, (((G, -1), (A,)), ((G, A), (A,))), [2, 0])

    def test_by_what_was_at_the_beginning(self):
        book = Book(SIGNS)
        book.know((G, A))
        # What the first rule makes alike, the second one finds a round later.
        self.both(book, (((G, A), (B,)), ((B,), (F, A, A)), ((F, -1, -1), (G, B))), [1, 1, 1, 0])
        # What the first rule makes alike isn't alike yet where the second one is looked at.
        self.both(book, (((G, A), (A,)), ((G, -1), (-1,))), [2, 0])

    def test_all_rules_in_one_round(self):
        book = Book(SIGNS)
        book.know((F, G, A, G, B))
        rounds = self.both(book, (SWAP, ((G, -1), (-1,)), ((F, -1, -2), (-1,))), [4, 4, 2, 0])
        self.assertEqual((rounds.done(), len(rounds.classes())), (3, 1))

    def test_by_parts(self):
        book = Book(SIGNS)
        book.know((F, G, A, G, B))
        rounds = self.both(book, (((A,), (B,)),), [1, 0])
        self.assertIs(rounds.alike((G, A), (G, B)), True)

    def test_the_right_side_may_be_a_letter_or_have_one_often(self):
        book = Book(SIGNS)
        book.know((H, A, B, A))
        for right in ((-1,), (-2,), (-3,), (F, -2, -2), (H, -3, -2, -1), (F, F, -1, -1, F, -1, -3), (B,)):
            rounds = Rounds(book, (((H, -1, -2, -3), right),))
            slow = Slow(book, (((H, -1, -2, -3), right),))
            for turn in range(3):
                self.assertEqual(rounds.go(), slow.go())
                self.same(rounds, slow)

    def test_still_for_good(self):
        book = Book(SIGNS)
        book.know((F, A, B))
        rounds = self.both(book, (SWAP,), [1, 0])
        before = self.telling(rounds)
        self.gone(rounds, [0] * 5)
        self.assertEqual(rounds.go_on(8), "still")
        self.assertEqual(self.telling(rounds), before)
        self.assertEqual(rounds.done(), 1)


class Full(RoundsCase):
    def test_the_most_that_is_met_or_passed(self):
        book = Book(SIGNS)
        book.know((F, A, B))
        for most in (1, 2, 3):
            rounds = self.both(book, (SWAP,), [0, 0, 0], most)
            self.assertEqual((rounds.word(), rounds.done(), len(rounds)), ("full", 0, 3))
        for most in (4, 5, 60):
            rounds = self.both(book, (SWAP,), [1, 0], most)
            self.assertEqual((rounds.word(), rounds.done(), len(rounds)), ("still", 1, 4))

    def test_full_behind_rounds(self):
        book = Book(SIGNS)
        book.know((G, A))
        rounds = self.both(book, (((G, -1), (F, -1, G, -1)), ((F, -1, -2), (G, -1))), [1, 0, 0], 3)
        self.assertEqual((rounds.word(), rounds.done()), ("still", 1))
        book.know((G, G, G, B))
        rules = (((G, G, -1), (F, -1, -1)), ((F, -1, -1), (F, A, -1)))
        rounds = self.both(book, rules, [2, 2, 0], 10)
        self.assertEqual((rounds.word(), rounds.done(), len(rounds)), ("still", 2, 10))
        for most in (8, 9):
            rounds = self.both(book, rules, [2, 0, 0], most)
            self.assertEqual((rounds.word(), rounds.done(), len(rounds)), ("full", 1, 8))
            self.assertEqual(str(rounds), "Rounds full after 1, 8 terms")
        rounds = self.both(book, rules, [0, 0], 7)
        self.assertEqual((rounds.word(), rounds.done(), len(rounds)), ("full", 0, 6))

    def test_sixty_where_none_is_told(self):
        book = Book(SIGNS)
        book.know(chain(29))
        book.know((G, B))
        rule = ((G, -1), (F, B, -1))
        # Of 31 terms 29 are g of something: with f(b, ..) of the same there are sixty.
        rounds = Rounds(book, (rule,))
        self.gone(rounds, [29, 0])
        self.assertEqual((rounds.word(), rounds.done(), len(rounds)), ("still", 1, 60))
        rounds = Rounds(book, (rule,), most=59)
        self.gone(rounds, [0])
        self.assertEqual((rounds.word(), rounds.done(), len(rounds)), ("full", 0, 31))
        book.know((F, A, A))
        rounds = Rounds(book, (rule,))
        self.gone(rounds, [0])
        self.assertEqual((rounds.word(), rounds.done(), len(rounds)), ("full", 0, 32))

    def test_a_book_that_knows_more_than_the_most(self):
        book = Book(SIGNS)
        book.know((G, G, A))
        # None would be known anew, and yet the round is full; where there is no new one it is still.
        rounds = self.both(book, (((G, G, A), (A,)),), [0, 0], 2)
        self.assertEqual((rounds.word(), len(rounds)), ("full", 3))
        rounds = self.both(book, (((G, G, A), (A,)),), [1, 0], 3)
        self.assertEqual((rounds.word(), len(rounds)), ("still", 3))
        rounds = self.both(book, (SWAP, ((G, A), (G, A))), [0, 0], 1)
        self.assertEqual((rounds.word(), len(rounds)), ("still", 3))
        self.assertEqual(self.both(full_book(), (((G, A), (A,)),), [0], 39).word(), "full")
        self.assertEqual(self.both(full_book(), (((G, A), (A,)),), [1], 40).word(), "going")

    def test_inner_terms_count_each_once(self):
        book = Book(SIGNS)
        book.know((A,))
        rule = ((A,), (F, G, B, G, B))
        self.assertEqual(self.both(book, (rule,), [1], 4).word(), "going")
        self.assertEqual(self.both(book, (rule,), [0], 3).word(), "full")

    def test_a_side_of_more_than_thirty_numbers(self):
        for many, told in ((19, [1]), (20, [0])):
            book = Book(SIGNS)
            book.know((F, B) + chain(many))
            # g eleven times ahead of it: 30 or 31 numbers.
            rounds = self.both(book, (((F, B, -1), (G,) * 11 + (-1,)),), told)
            self.assertEqual(rounds.word(), "going" if told == [1] else "full")
        book = Book(SIGNS)
        book.know((F,) + chain(14) + chain(15))
        self.assertEqual(self.both(book, (((F, -1, -2), (F, -2, -1)),), [1]).word(), "going")
        self.assertEqual(self.both(book, (((F, -1, -2), (F, -2, -2)),), [0]).word(), "full")
        self.assertEqual(self.both(book, (((F, -1, -2), (H, -1, -2, A)),), [0]).word(), "full")

    def test_one_side_too_long_and_nothing_is_done(self):
        book = Book(SIGNS)
        book.know(chain(30))
        book.know((F, A, B))
        rounds = self.both(book, (SWAP, GROW), [0, 0])
        self.assertEqual((rounds.word(), rounds.done(), len(rounds)), ("full", 0, 32))
        self.assertEqual(rounds.classes()[:3], [[(A,)], [(B,)], [(G, A)]])

    def test_a_left_side_of_more_than_thirty_numbers(self):
        # f(b, b) is known, and b is alike to a long term, of which the left side is made.
        for many, word in ((14, "going"), (15, "full"), (29, "full")):
            book = book_of([(chain(many), (B,))])
            book.know((F, B, B))
            rounds = self.both(book, (((F, G, -1, G, -2), (A,)),), [1 if word == "going" else 0])
            self.assertEqual(rounds.word(), word)

    def test_full_for_good(self):
        book = Book(SIGNS)
        book.know((F, A, B))
        rounds = Rounds(book, (SWAP,), most=3)
        self.gone(rounds, [0])
        before = self.telling(rounds)
        self.gone(rounds, [0] * 3)
        self.assertEqual(rounds.go_on(8), "full")
        self.assertEqual(self.telling(rounds), before)


class GoOn(RoundsCase):
    def growing(self):
        book = Book(SIGNS)
        book.know((G, A))
        return Rounds(book, (((G, -1), (G, G, -1)),))

    def test_so_many_rounds(self):
        for most in range(9):
            book = Book(C_SIGNS)
            book.know((4, 0))
            rules = (((4, -1), (5, -1, 4, -1)), ((5, -1, -2), (4, -2)))
            rounds, slow = Rounds(book, rules), Slow(book, rules)
            for turn in range(most):
                slow.go()
            self.assertEqual(rounds.go_on(most), slow.word)
            self.same(rounds, slow)

    def test_three_where_none_is_told(self):
        rules = (((G, A), (F, A, A)), ((F, A, A), (F, A, B)), ((F, A, B), (F, B, A)), ((F, B, A), (F, B, B)),
                 ((F, B, B), (G, B)))
        book = Book(SIGNS)
        book.know((G, A))
        rounds = Rounds(book, rules)
        self.assertEqual(rounds.go_on(), "going")
        self.assertEqual(rounds.done(), 3)
        self.assertEqual(rounds.go_on(1), "going")
        self.assertEqual(rounds.done(), 4)
        self.assertEqual(rounds.go_on(), "still")
        self.assertEqual(rounds.done(), 5)
        for most, done, word in ((0, 0, "begun"), (1, 1, "going"), (5, 5, "going"), (6, 5, "still"), (8, 5, "still")):
            rounds = Rounds(book, rules)
            self.assertEqual(rounds.go_on(most=most), word)
            self.assertEqual((rounds.done(), rounds.word()), (done, word))

    def test_none(self):
        rounds = self.growing()
        before = self.telling(rounds)
        self.assertEqual(rounds.go_on(0), "begun")
        self.assertEqual(self.telling(rounds), before)
        rounds.go()
        self.assertEqual(rounds.go_on(0), rounds.word())

    def test_no_rounds(self):
        rounds = self.growing()
        for wrong in [-1, 9, 10, 60, 10 ** 39, -(10 ** 39), True, False, None, "3", (), (3,), [3], {}] + odd_things():
            if type(wrong) is not int or wrong not in range(9):
                self.unturned(rounds, errors.NoRounds, {}, rounds.go_on, wrong)
                self.unturned(rounds, errors.NoRounds, {}, rounds.go_on, most=wrong)
        rounds.go_on(8)
        self.unturned(rounds, errors.NoRounds, {}, rounds.go_on, 9)


class Kept(RoundsCase):
    def test_the_book_later(self):
        book = book_of([((G, A), (B,))])
        book.push()
        book.know((F, A, B))
        rounds, slow = Rounds(book, (SWAP,)), Slow(book, (SWAP,))
        book.tell((A,), (B,))
        book.know((H, A, A, A))
        self.same(rounds, slow)
        book.back()
        self.same(rounds, slow)
        for turn in range(3):
            self.assertEqual(rounds.go(), slow.go())
            self.same(rounds, slow)

    def test_rounds_leave_the_book_as_it_was(self):
        book = book_of([((G, A), (B,))])
        book.know((F, A, B))
        before, twin = state(book), book.twin()
        rounds = Rounds(book, (SWAP, ((G, -1), (-1,))))
        rounds.go_on(8)
        rounds.answer((A,), (B,))
        self.assertEqual(state(book), before)
        self.assertTrue(book == twin)

    def test_two_rounds_of_a_book(self):
        book = Book(SIGNS)
        book.know((F, A, B))
        one, other = Rounds(book, (SWAP,)), Rounds(book, (SWAP,))
        one.go_on()
        self.assertEqual((other.word(), other.done(), len(other)), ("begun", 0, 3))
        self.assertEqual((one.word(), one.done(), len(one)), ("still", 1, 4))

    def test_levels_and_unlikes_do_not_count(self):
        book = book_of([((A,), (B,))])
        book.push()
        book.part((A,), (B,))
        book.push()
        book.know((F, A, B))
        rounds = self.both(book, (SWAP,), [1, 0])
        self.assertIs(rounds.alike((A,), (B,)), True)

    def test_lists_are_the_asker_s_own(self):
        book = book_of([((A,), (G, A))])
        rounds = Rounds(book, (((G, -1), (F, -1, -1)),))
        for turn in range(3):
            for function in (rounds.known, rounds.classes):
                told = function()
                self.assertIsNot(function(), told)
                kept = [list(thing) for thing in told]
                told[0] = None
                told.append(3)
                self.assertEqual([list(thing) for thing in function()], kept)
            rounds.classes()[0].clear()
            self.assertEqual(rounds.classes()[0][0], (A,))
            rounds.go()

    def test_of_drawn_books(self):
        rules = [((5, -1, -2), (5, -2, -1)), ((4, 4, -1), (-1,)), ((4, -1), (5, -1, -1)), ((5, -1, 0), (-1,)),
                 ((5, 5, -1, -2, -3), (5, -1, 5, -2, -3)), ((4, 0), (1,)), ((2,), (4, 3)), ((5, -1, -1), (-1,)),
                 ((4, 5, -1, -2), (5, 4, -1, 4, -2))]
        seen = {}
        for seed in range(120):
            dice = random.Random(seed)
            book = book_of(drawn_pairs(dice, dice.randrange(0, 4), C_SIGNS), C_SIGNS)
            for one, other in drawn_pairs(dice, 2, C_SIGNS, 3):
                book.know(one)
            chosen = tuple(dice.choice(rules) for rule in range(dice.randrange(1, 4)))
            most = dice.choice((60, 30, 20, 10))
            rounds, slow = Rounds(book, chosen, most=most), Slow(book, chosen, most)
            for turn in range(4):
                self.assertEqual(rounds.go(), slow.go())
                self.same(rounds, slow)
                for left, right in chosen:
                    self.assertEqual(matches(rounds, left), slow_matches(slow, left))
            seen[(slow.word, slow.done)] = seen.get((slow.word, slow.done), 0) + 1
        self.assertGreater(len(seen), 5)


class Matched(RoundsCase):
    def test_by_the_classes_of_the_rounds(self):
        book = Book(SIGNS)
        book.know((F, G, A, B))
        rounds = Rounds(book, (((G, -1), (-1,)),))
        self.assertEqual(matches(rounds, (F, -1, -2)), [((F, G, A, B), (G, A), (B,))])
        self.assertEqual(matches(rounds, (-1,)), [((A,),) * 2, ((B,),) * 2, ((G, A),) * 2, ((F, G, A, B),) * 2])
        rounds.go()
        self.assertEqual(matches(rounds, (F, -1, -2)), [((F, G, A, B), (A,), (B,))])
        self.assertEqual(matches(nest=rounds, pattern=(G, -1)), [((A,), (A,))])
        self.assertEqual(matches(rounds, (F, A, -1)), [((F, G, A, B), (B,))])
        self.assertEqual(matches(book, (F, A, -1)), [])

    def test_no_pattern(self):
        rounds = Rounds(book_of([((G, A), (B,))]), (SWAP,))
        for wrong in [(), (-2,), (G, -2), (F, -1), [-1], (True,), None] + odd_things():
            if wrong != (-1,):
                self.unturned(rounds, errors.NoPattern, {}, matches, rounds, wrong)


class Refused(RoundsCase):
    def test_no_rules(self):
        book = book_of([((A,), (B,))])
        for wrong in NO_RULES + odd_things():
            if wrong != ():
                self.unmoved(book, errors.NoRules, {}, Rounds, book, wrong)
                self.unmoved(book, errors.NoRules, {}, Rounds, book, wrong, most=0)
                self.unmoved(book, errors.NoRules, {}, Rounds, book, rules=wrong, most=None)

    def test_no_rounds(self):
        book = book_of([((A,), (B,))])
        for wrong in NO_MOSTS + odd_things():
            if type(wrong) is not int or wrong not in range(1, 61):
                self.unmoved(book, errors.NoRounds, {}, Rounds, book, (SWAP,), most=wrong)
                self.unmoved(book, errors.NoRounds, {}, Rounds, book, most=wrong)
        for fine in (1, 2, 59, 60):
            self.assertEqual(Rounds(book, (SWAP,), most=fine).word(), "begun")

    def test_terms_that_are_none(self):
        rounds = Rounds(book_of([((A,), (G, A))]), (SWAP,))
        for wrong in NO_TERMS + odd_things():
            self.unturned(rounds, errors.NoTerm, {"at": 0}, rounds.first, wrong)
            for function in (rounds.alike, rounds.answer):
                for known in ((A,), (B,)):
                    self.unturned(rounds, errors.NoTerm, {"at": 0}, function, wrong, known)
                    self.unturned(rounds, errors.NoTerm, {"at": 1}, function, known, wrong)
                self.unturned(rounds, errors.NoTerm, {"at": 0}, function, wrong, wrong)

    def test_terms_that_are_not_known(self):
        rounds = Rounds(book_of([((A,), (G, A))]), (SWAP,))
        for word in ("begun", "still"):
            self.assertEqual(rounds.word(), word)
            for term in ((B,), (G, G, A), (F, A, A), chain(30), chain_b(2)):
                self.unturned(rounds, errors.NotKnown, {"term": term}, rounds.first, term)
                for function in (rounds.alike, rounds.answer):
                    self.unturned(rounds, errors.NotKnown, {"term": term}, function, (A,), term)
                    self.unturned(rounds, errors.NotKnown, {"term": term}, function, term, (A,))
                    self.unturned(rounds, errors.NotKnown, {"term": term}, function, term, term)
                    self.unturned(rounds, errors.NotKnown, {"term": term}, function, term, (F, B, B))
            rounds.go()

    def test_known_behind_a_round(self):
        book = Book(SIGNS)
        book.know((F, A, B))
        rounds = Rounds(book, (SWAP,))
        self.refused(errors.NotKnown, {"term": (F, B, A)}, rounds.first, (F, B, A))
        rounds.go()
        self.assertEqual(rounds.first((F, B, A)), (F, A, B))
        self.assertEqual(rounds.first(term=(F, B, A)), (F, A, B))
        self.assertIs(rounds.alike(other=(F, B, A), one=(A,)), False)


if __name__ == "__main__":
    unittest.main()
