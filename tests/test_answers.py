"""The answers of rounds: lines by givens and rules, a model of givens and rules, or what is open."""

import random
import unittest

from helper import A, B, C_SIGNS, F, G, H, SIGNS, Case, book_of, chain, drawn_pairs, slow_class_model
from helper import slow_holds, slow_model, slow_pairs, slow_worth
from likenest.books import Book
from likenest.lines import are_lines_for
from likenest.models import is_model, model_of
from likenest.rounds import Rounds

SWAP = ((F, -1, -2), (F, -2, -1))
# A rule of three letters that holds in each model.
THREE = ((H, -1, -2, -3), (H, -1, -2, -3))


def slow_answer(rounds, rules, one, other):
    """The answer but for its paper."""
    if rounds.first(one) == rounds.first(other):
        return ("alike",)
    if rounds.word() != "still":
        return ("open", rounds.word(), rounds.done())
    model = slow_class_model(rounds.signs(), rounds.classes())
    if max([model[0] ** len({n for n in left if n < 0}) for left, right in rules], default=0) > 20000:
        return ("open", "wide", rounds.done())
    if all(slow_holds(rounds.signs(), model, rule) for rule in rules):
        return ("unlike", model)
    return ("open", "torn", rounds.done())


class AnswerCase(Case):
    def answered(self, rounds, givens, rules, one, other):
        """What is told is looked through slowly; told is how it begins."""
        before = str(rounds), rounds.classes()
        told = rounds.answer(one, other)
        wanted = slow_answer(rounds, rules, one, other)
        self.assertIs(type(told), tuple)
        self.assertEqual(rounds.answer(one, other), told)
        if wanted == ("alike",):
            self.assertEqual((len(told), told[0]), (2, "alike"))
            self.assertEqual(slow_pairs((rounds.signs(), givens, rules), told[1])[-1], (one, other))
            self.assertIs(are_lines_for(rounds.signs(), givens, told[1], one, other, rules=rules), True)
        else:
            self.assertEqual(told, wanted)
        if told[0] == "unlike":
            self.assertTrue(slow_model(rounds.signs(), told[1]))
            self.assertIs(is_model(rounds.signs(), givens, told[1], unlikes=((one, other),)), True)
        if told[0] == "open":
            self.assertEqual([type(thing) for thing in told], [str, str, int])
        self.assertEqual((str(rounds), rounds.classes()), before)
        return told[:2] if told[0] == "open" else told[:1]

    def all_answered(self, rounds, givens, rules):
        """All two known terms, as far as they go, are asked: the set of what is told."""
        known = rounds.known()[:12]
        return {self.answered(rounds, givens, rules, one, other) for one in known for other in known}


class Answers(AnswerCase):
    def test_alike_by_a_rule(self):
        book = Book(SIGNS)
        book.know((F, A, B))
        rounds = Rounds(book, (SWAP,))
        self.assertEqual(rounds.answer((F, A, B), (F, A, B)), ("alike", (("self", (F, A, B)),)))
        rounds.go()
        self.assertEqual(rounds.answer((F, A, B), (F, B, A)), ("alike", (("rule", 0, ((A,), (B,))),)))
        self.assertEqual(self.all_answered(rounds, (), (SWAP,)), {("alike",), ("open", "going")})
        rounds.go()
        self.assertEqual(self.all_answered(rounds, (), (SWAP,)), {("alike",), ("unlike",)})
        self.assertEqual(rounds.answer(other=(F, B, A), one=(F, A, B))[0], "alike")

    def test_alike_by_givens_rules_and_parts(self):
        givens = (((G, A), (B,)), ((F, B, A), (H, A, A, A)))
        book = book_of(givens)
        book.know((G, F, A, G, A))
        book.know((G, F, B, A))
        rules = (SWAP, ((H, -1, -2, -3), (F, -1, G, -2)))
        rounds = Rounds(book, rules)
        seen = self.all_answered(rounds, givens, rules)
        for turn in range(4):
            rounds.go()
            seen |= self.all_answered(rounds, givens, rules)
        told = rounds.answer((G, F, A, G, A), (G, F, B, A))
        self.assertEqual({line[0] for line in told[1]} >= {"rule", "parts"}, True)
        self.assertEqual(seen, {("alike",), ("open", "begun"), ("open", "going"), ("open", "torn")})

    def test_alike_by_a_rule_told_twice_and_one_without_letters(self):
        book = Book(SIGNS)
        book.know((G, A))
        rules = (((G, A), (B,)), ((G, A), (B,)), ((B,), (A,)))
        rounds = Rounds(book, rules)
        rounds.go_on(8)
        self.assertEqual(self.all_answered(rounds, (), rules), {("alike",)})
        self.assertEqual(rounds.answer((G, A), (B,)), ("alike", (("rule", 0, ()),)))

    def test_open_words(self):
        book = Book(SIGNS)
        book.know((F, A, B))
        rounds = Rounds(book, (SWAP,), most=3)
        self.assertEqual(rounds.answer((A,), (B,)), ("open", "begun", 0))
        rounds.go()
        self.assertEqual(rounds.answer((A,), (B,)), ("open", "full", 0))
        self.assertEqual(rounds.answer((A,), (A,)), ("alike", (("self", (A,)),)))
        rules = (((F, -1, -2), (G, F, -2, -1)), SWAP)
        rounds = Rounds(book, rules, most=12)
        for done in range(1, 3):
            rounds.go()
            self.assertEqual(rounds.answer((A,), (B,)), ("open", rounds.word(), rounds.done()))

    def test_unlike_without_rules(self):
        book = book_of([((G, A), (B,))])
        rounds = Rounds(book)
        self.assertEqual(rounds.answer((A,), (B,)), ("open", "begun", 0))
        rounds.go()
        self.assertEqual(rounds.answer((A,), (B,)), ("unlike", model_of(book)))

    def test_the_model_is_that_of_the_rounds(self):
        book = Book(SIGNS)
        book.know((F, A, B))
        rounds = Rounds(book, (SWAP,))
        rounds.go_on()
        self.assertEqual(rounds.answer((A,), (F, B, A)),
                         ("unlike", (4, 3, ((((), 0),), (((), 1),), (), (((0, 1), 2), ((1, 0), 2)), ()))))

    def test_torn(self):
        book = Book(SIGNS)
        book.know((A,))
        book.know((B,))
        # No g is known, so nothing is found; and yet g of a thing is rest in the model, and isn't a.
        for rule in (((G, -1), (A,)), ((G, G, -1), (-1,)), ((F, -1, -1), (-1,)), ((G, A), (B,)), ((F, -1, -2), (-2,))):
            rounds = Rounds(book, (rule,))
            self.assertEqual(rounds.go(), 0)
            self.assertEqual(rounds.word(), "still")
            self.assertEqual(rounds.answer((A,), (B,)), ("open", "torn", 0))
            self.assertEqual(self.all_answered(rounds, (), (rule,)), {("alike",), ("open", "torn")})

    def test_rules_that_hold_by_rest(self):
        book = Book(SIGNS)
        book.know((A,))
        book.know((B,))
        for rule in (((G, -1), (F, -1, -1)), ((G, A), (G, B)), ((F, G, -1, -2), (H, -1, -1, -2))):
            rounds = Rounds(book, (rule,))
            rounds.go()
            self.assertEqual(self.all_answered(rounds, (), (rule,)), {("alike",), ("unlike",)})

    def test_rest_is_a_thing_of_the_rows(self):
        # g keeps each thing, rest too; f(x, a) is a of both classes, and rest of rest alone.
        givens = (((G, A), (A,)), ((G, B), (B,)), ((F, A, A), (A,)), ((F, B, A), (A,)))
        for rule, word in ((((G, -1), (-1,)), ("unlike",)), (((F, -1, A), (A,)), ("open", "torn"))):
            rounds = Rounds(book_of(givens), (rule,))
            self.assertEqual(rounds.go(), 0)
            self.assertEqual(self.answered(rounds, givens, (rule,), (A,), (B,)), word)
        # f(x, y) is y of all classes, and rest where x is rest.
        givens = tuple(((F, one, other), (other,)) for one in (A, B) for other in (A, B))
        rule = ((F, -1, -2), (-2,))
        rounds = Rounds(book_of(givens), (rule,))
        self.assertEqual(rounds.go(), 0)
        self.assertEqual(self.answered(rounds, givens, (rule,), (A,), (B,)), ("open", "torn"))

    def test_one_rule_that_does_not_hold_among_those_that_do(self):
        book = Book(SIGNS)
        book.know((A,))
        book.know((B,))
        fine = ((G, -1), (G, -1))
        for place in range(4):
            rules = (fine,) * place + (((G, A), (B,)),) + (fine,) * (3 - place)
            rounds = Rounds(book, rules)
            rounds.go()
            self.assertEqual(rounds.answer((A,), (B,)), ("open", "torn", 0))
        rounds = Rounds(book, (fine,) * 4)
        rounds.go()
        self.assertEqual(rounds.answer((A,), (B,))[0], "unlike")

    def test_twenty_thousand_rows(self):
        # So many classes and rest: 27 times 27 times 27 rows are 19,683, of 28 things there are 21,952.
        for many, word in ((25, "unlike"), (26, "unlike"), (27, "wide"), (28, "wide"), (30, "wide")):
            book = Book(SIGNS)
            book.know(chain(many))
            rounds = Rounds(book, (THREE,))
            rounds.go()
            self.assertEqual(rounds.word(), "still")
            told = rounds.answer((A,), (G, A))
            self.assertEqual(told, ("unlike", model_of(book)) if word == "unlike" else ("open", "wide", 0))
            self.assertEqual(rounds.answer((G, A), (G, A))[0], "alike")

    def test_two_letters_are_never_wide(self):
        book = Book(SIGNS)
        book.know(chain(30))
        book.know((G,) * 8 + (B,))
        rounds = Rounds(book, (SWAP,))
        rounds.go()
        self.assertEqual(rounds.answer((A,), (B,))[0], "unlike")

    def test_wide_by_whichever_rule_and_ahead_of_torn(self):
        book = Book(SIGNS)
        book.know(chain(27))
        wrong = ((F, -1, -1), (-1,))
        for rules in ((THREE, wrong), (wrong, THREE), (wrong, wrong, wrong, wrong, wrong, THREE)):
            rounds = Rounds(book, rules)
            rounds.go()
            self.assertEqual(rounds.answer((A,), (G, A)), ("open", "wide", 0))
        rounds = Rounds(book, (wrong,))
        rounds.go()
        self.assertEqual(rounds.answer((A,), (G, A)), ("open", "torn", 0))

    def test_wide_only_where_it_is_still(self):
        book = Book(SIGNS)
        book.know(chain(28))
        rounds = Rounds(book, (THREE, ((A,), (B,))))
        self.assertEqual(rounds.answer((A,), (G, A)), ("open", "begun", 0))
        rounds.go()
        self.assertEqual(rounds.answer((A,), (G, A)), ("open", "going", 1))
        rounds.go()
        self.assertEqual(rounds.answer((A,), (G, A)), ("open", "wide", 1))
        rounds = Rounds(book, (THREE, ((G, -1), (F, -1, -1))))
        rounds.go()
        self.assertEqual(rounds.answer((A,), (G, A)), ("open", "full", 0))

    def test_three_letters_number_by_number(self):
        # f of two things is the third one's only where the rows go through each letter by itself.
        book = Book(SIGNS)
        book.know((H, A, B, A))
        for rule in (((H, -1, -2, -3), (H, -3, -2, -1)), ((H, -1, -2, -3), (H, -1, -2, -1)), ((H, -1, -2, -1), (H, -1, -1, -2)),
                     ((H, -1, -2, -3), (H, -2, -1, -3)), ((H, -1, -2, -3), (H, -1, -3, -2))):
            rounds = Rounds(book, (rule,))
            rounds.go_on(8)
            self.all_answered(rounds, (), (rule,))


class Drawn(AnswerCase):
    RULES = [((5, -1, -2), (5, -2, -1)), ((4, 4, -1), (4, -1)), ((4, -1), (5, -1, -1)), ((5, -1, 0), (5, 0, -1)),
             ((5, 5, -1, -2, -3), (5, -1, 5, -2, -3)), ((4, 0), (1,)), ((2,), (4, 3)), ((5, -1, -1), (4, -1)),
             ((4, 5, -1, -2), (5, 4, -1, 4, -2)), ((4, -1), (-1,)), ((5, -1, -2), (4, -1))]

    def drawn(self, seed):
        dice = random.Random(seed)
        givens = drawn_pairs(dice, dice.randrange(0, 4), C_SIGNS)
        book = book_of(givens, C_SIGNS)
        for one, other in drawn_pairs(dice, 2, C_SIGNS, 3):
            book.know(one)
        rules = tuple(dice.choice(self.RULES) for rule in range(dice.randrange(1, 4)))
        return dice, book, givens, rules

    def test_all_answers(self):
        seen = set()
        for seed in range(60):
            dice, book, givens, rules = self.drawn(seed)
            rounds = Rounds(book, rules)
            for turn in range(dice.randrange(1, 6)):
                rounds.go()
            seen |= self.all_answered(rounds, givens, rules)
        self.assertEqual(seen, {("alike",), ("unlike",), ("open", "going"), ("open", "full"), ("open", "torn")})

    def test_what_is_told_alike_holds_in_each_model_that_is_told(self):
        shown = 0
        for seed in range(80):
            dice, book, givens, rules = self.drawn(seed)
            rounds = Rounds(book, rules)
            rounds.go_on(8)
            firsts = [terms[0] for terms in rounds.classes()]
            told = rounds.answer(firsts[0], firsts[-1])
            if told[0] != "unlike":
                continue
            other = Book(C_SIGNS)
            for one, another in dice.sample(givens, len(givens)):
                other.tell(another, one)
            for one, another in drawn_pairs(dice, 3, C_SIGNS, 3):
                other.know(one)
            longer = Rounds(other, rules[::-1])
            longer.go_on(2)
            for terms in longer.classes():
                self.assertEqual(len({slow_worth(C_SIGNS, told[1], term) for term in terms}), 1)
                shown += len(terms) - 1
        self.assertGreater(shown, 50)


if __name__ == "__main__":
    unittest.main()
