"""led, are_lines_for and leaned: each word, each thing otherwise, the bounds, and what is refused."""

import copy
import random
import unittest

from helper import A, B, F, G, H, NO_GIVENS, NO_SIGNS, NO_TERMS, SIGNS, Case, are_lean, chain, chain_b, drawn_pairs
from helper import drawn_term, named, nested, odd_things, otherwise, slow_pairs
from likenest import errors
from likenest.lines import are_lines_for, leaned, led

GIVENS = (((A,), (B,)), ((G, A), (B,)), ((F, A, B), (A,)))
RULES = (((F, -1, -2), (F, -2, -1)), ((G, G, -1), (-1,)), ((G, A), (B,)), ((H, -1, -2, -3), (F, -3, F, -1, -1)))
GROUNDS = (SIGNS, GIVENS, RULES)
NO_RULES = [[], None, 0, ((A,), (B,)), (((-1,), (A,)),), (((G, -1), (-2,)),), (((G, -1), (G, -1)),) * 7, {}, (None,)]
LEADING = (("self", (A,)),)


def lead(lines, givens=GIVENS, rules=RULES):
    return led(SIGNS, givens, lines, rules=rules)


def drawn_lines(dice, many, givens, rules):
    """Lines that show something, each drawn among those that may stand behind the ones ahead."""
    lines, pairs = [], []
    while len(lines) < many:
        word = dice.choice(["self", "given", "turned", "joined", "joined", "parts", "rule"])
        number = dice.randrange(len(lines)) if lines else 0
        if word == "self":
            line = (word, drawn_term(dice))
        elif word == "given":
            line = (word, dice.randrange(len(givens)))
        elif word == "turned":
            line = (word, number)
        elif word == "joined":
            fitting = [k for k, pair in enumerate(pairs) if pair[0] == pairs[number][1]]
            line = (word, number, dice.choice(fitting or [0]))
        elif word == "parts":
            sign = dice.randrange(len(SIGNS))
            line = (word, sign, tuple(dice.randrange(len(lines) or 1) for part in range(SIGNS[sign][1])))
        else:
            rule = dice.randrange(len(rules))
            letters = len({letter for letter in rules[rule][0] if letter < 0})
            line = (word, rule, tuple(drawn_term(dice) for letter in range(letters)))
        told = slow_pairs((SIGNS, givens, rules), tuple(lines) + (line,))
        if told is not None:
            lines.append(line)
            pairs = told
    return tuple(lines)


def slow_leaned(grounds, lines):
    """The leaned lines: first, what stands for a line, then what is needed, then new numbers."""
    pairs = slow_pairs(grounds, lines)
    first = [pairs.index(pair) for pair in pairs]

    def anew(line, numbers):
        if line[0] == "parts":
            return line[:2] + (tuple(numbers[k] for k in line[2]),)
        return line[:1] + tuple(numbers[k] for k in line[1:]) if line[0] in ("turned", "joined") else line

    lines = [anew(line, first) for line in lines]
    needed, todo = set(), [first[-1]]
    while todo:
        number = todo.pop()
        if number not in needed:
            needed.add(number)
            todo += named(lines[number])
    numbers = {number: place for place, number in enumerate(sorted(needed))}
    return tuple(anew(lines[number], numbers) for number in sorted(needed))


class Words(Case):
    def shows(self, lines, pair):
        told = lead(lines)
        self.assertEqual(told, pair)
        self.assertIs(type(told), tuple)
        for prefix in range(1, len(lines)):
            self.assertIsNotNone(lead(lines[:prefix]))

    def none(self, lines):
        self.assertIsNone(lead(lines), lines)

    def test_self(self):
        self.shows((("self", (A,)),), ((A,), (A,)))
        self.shows((("self", (F, A, G, B)),), ((F, A, G, B), (F, A, G, B)))
        self.shows((("self", chain(30)),), (chain(30), chain(30)))
        for wrong in NO_TERMS + odd_things():
            self.none((("self", wrong),))

    def test_given(self):
        for number, pair in enumerate(GIVENS):
            self.shows((("given", number),), pair)
        for wrong in (3, -1, -3, 10 ** 39, True, False, None, "0", (0,), [0], {}):
            self.none((("given", wrong),))
        self.assertIsNone(lead((("given", 0),), givens=()))

    def test_turned(self):
        self.shows((("given", 2), ("turned", 0)), ((A,), (F, A, B)))
        self.shows((("given", 0), ("given", 1), ("turned", 1), ("turned", 2)), GIVENS[1])
        for wrong in (1, 2, -1, 10 ** 39, True, False, None, "0", (0,), [0], {}):
            self.none((("given", 2), ("turned", wrong)))
        self.none((("turned", 0),))
        self.none((("turned", 0), ("given", 0)))

    def test_joined(self):
        start = (("given", 1), ("given", 0), ("turned", 1))
        self.shows(start + (("joined", 0, 2),), ((G, A), (A,)))
        self.shows(start + (("joined", 1, 2),), ((A,), (A,)))
        self.none(start + (("joined", 0, 1),))
        self.none(start + (("joined", 2, 0),))
        self.none(start + (("joined", 0, 0),))
        for wrong in (3, 4, -1, -2, 10 ** 39, True, False, None, "2", (2,), [2], {}):
            self.none(start + (("joined", 0, wrong),))
            self.none(start + (("joined", wrong, 2),))

    def test_parts(self):
        start = (("given", 0), ("given", 1), ("self", (A,)))
        self.shows(start + (("parts", G, (1,)),), ((G, G, A), (G, B)))
        self.shows(start + (("parts", F, (0, 1)),), ((F, A, G, A), (F, B, B)))
        self.shows(start + (("parts", F, (1, 0)),), ((F, G, A, A), (F, B, B)))
        self.shows(start + (("parts", H, (2, 0, 1)),), ((H, A, A, G, A), (H, A, B, B)))
        self.shows((("parts", B, ()),), ((B,), (B,)))
        for sign, numbers in ((G, ()), (G, (0, 0)), (F, (0,)), (F, (0, 0, 0)), (H, (0, 0)), (A, (0,)), (F, ()), (H, ())):
            self.none(start + (("parts", sign, numbers),))
        for wrong in (3, -1, 10 ** 39, True, False, None, "0", (0,), [0]):
            self.none(start + (("parts", G, (wrong,)),))
            self.none(start + (("parts", F, (0, wrong)),))
        for wrong in (5, -1, -3, 10 ** 39, True, False, None, "g", (G,), [G]):
            self.none(start + (("parts", wrong, (0,)),))
            self.none(start + (("parts", wrong, ()),))
        for wrong in ([0], 0, None, "0", {0: 0}, True):
            self.none(start + (("parts", G, wrong),))

    def test_rule(self):
        self.shows((("rule", 0, ((A,), (G, B))),), ((F, A, G, B), (F, G, B, A)))
        self.shows((("rule", 1, ((F, A, A),)),), ((G, G, F, A, A), (F, A, A)))
        self.shows((("rule", 2, ()),), ((G, A), (B,)))
        self.shows((("rule", 3, ((A,), (B,), (G, A))),), ((H, A, B, G, A), (F, G, A, F, A, A)))
        for number, terms in ((0, ()), (0, ((A,),)), (0, ((A,),) * 3), (1, ()), (1, ((A,), (A,))), (2, ((A,),)),
                              (3, ((A,), (B,)))):
            self.none((("rule", number, terms),))
        for wrong in (4, -1, 10 ** 39, True, False, None, "2", (2,), [2]):
            self.none((("rule", wrong, ()),))
            self.none((("rule", wrong, ((A,),)),))
        for wrong in NO_TERMS + odd_things():
            self.none((("rule", 1, (wrong,)),))
            self.none((("rule", 0, ((A,), wrong)),))
        self.none((("rule", 1, [(A,)]),))
        self.none((("rule", 2, []),))
        self.assertIsNone(led(SIGNS, GIVENS, (("rule", 2, ()),)))

    def test_words_that_are_none(self):
        for word in ("", "Self", "self ", "selfs", "rules", "part", "join", "same", None, 0, True, (), ["self"], {}, ("self",)):
            self.none(((word, (A,)),))
            self.none((("given", 0), (word, 0)))
            self.none((("given", 0), (word, 0, 0)))
            self.none((("given", 0), (word, G, (0,))))

    def test_too_few_or_too_many_parts(self):
        start = (("given", 0), ("self", (A,)))
        for line in (("self", (A,)), ("given", 0), ("turned", 0), ("joined", 1, 0), ("parts", G, (0,)), ("rule", 2, ())):
            self.assertIsNotNone(lead(start + (line,)))
            for wrong in (line[:-1], line[:1], (), line + (0,), line + ((),), line + (line[-1],), line + (None,), list(line)):
                self.none(start + (wrong,))
                self.none((wrong,) + start)

    def test_what_is_no_lines(self):
        self.none(())
        self.none([("self", (A,))])
        self.none(("self", (A,)))
        for thing in odd_things() + [nested(tuple, 12), ((("self", (A,)),),)]:
            self.none(thing)
            self.none((("self", (A,)), thing))
            self.none((thing, ("self", (A,))))

    def test_how_many_lines(self):
        self.shows((("given", 0),) + (("turned", 0),) * 2, ((B,), (A,)))
        many = (("given", 0),) + tuple(("turned", place) for place in range(19999))
        self.assertEqual(lead(many), ((B,), (A,)))
        self.assertEqual(lead(many[:19999]), ((A,), (B,)))
        self.none(many + (("self", (A,)),))
        self.none(many * 3)

    def test_a_line_that_is_none_ahead_of_one_that_shows(self):
        self.none((("given", 9), ("given", 0)))
        self.none((("given", 0), ("joined", 0, 0), ("given", 0)))


class TwoHundred(Case):
    """Up to two hundred numbers a side."""

    def test_by_parts(self):
        start = (("self", chain(30)), ("parts", H, (0, 0, 0)), ("parts", F, (1, 1)))
        self.assertEqual(len(lead(start)[0]), 183)
        for many in (1, 15, 16):
            lines = start + (("self", chain(many)), ("parts", F, (2, 3)))
            self.assertEqual([len(side) for side in lead(lines)], [184 + many] * 2)
            self.assertEqual(lead(lines + (("turned", 4), ("joined", 4, 5))), lead(lines))
        for many in (17, 18, 30):
            self.assertIsNone(lead(start + (("self", chain(many)), ("parts", F, (2, 3)))))
        self.assertIsNone(lead(start + (("self", chain(17)), ("parts", F, (2, 3)), ("self", (A,)))))

    def test_of_one_side_alone(self):
        start = (("self", chain(30)), ("parts", H, (0, 0, 0)), ("parts", F, (1, 1)), ("given", 0))
        for one, other, fine in ((15, 16, True), (16, 16, True), (16, 17, False), (17, 16, False), (1, 17, False)):
            givens = ((chain(one), chain_b(other)),)
            for number in (3, 4):
                lines = start + (("turned", 3), ("parts", F, (2, number)))
                told = lead(lines, givens=givens)
                self.assertEqual(told is not None, fine)
                if fine:
                    self.assertEqual({len(side) for side in told}, {184 + one, 184 + other})

    def test_by_a_rule(self):
        seven = (H, H, -1, -1, -1, H, -1, -1, -1, -1)
        for left, right, many, fine in (((G,) + seven, seven, 28, True), ((G, G) + seven, seven, 28, False),
                                        (seven, (G,) + seven, 28, True), (seven, (G, G) + seven, 28, False),
                                        (seven, (G,) + seven, 29, False), ((G, G) + seven, seven, 27, True)):
            rules = (((G, -1) if left == seven else left, right),)
            told = lead((("rule", 0, (chain(many),)),), rules=rules)
            self.assertEqual(told is not None, fine)
            if fine:
                self.assertEqual(max(len(side) for side in told), len(max(left, right, key=len)) - 7 + 7 * many)

    def test_asked_of_are_lines_for(self):
        lines = (("self", chain(30)), ("parts", G, (0,)))
        self.assertEqual(len(lead(lines)[0]), 31)
        self.assertIs(are_lines_for(SIGNS, (), lines, chain(30), chain(30)), False)
        self.refused(errors.NoTerm, {"at": 0}, are_lines_for, SIGNS, (), lines, chain(31), chain(31))
        self.assertEqual(leaned(SIGNS, (), lines), lines)


class Slowly(Case):
    """Against what the words of the document say, written anew in the tests."""

    def test_drawn_lines(self):
        for seed in range(60):
            dice = random.Random(seed)
            givens = drawn_pairs(dice, 4) + GIVENS
            lines = drawn_lines(dice, dice.randrange(1, 25), givens, RULES)
            pairs = slow_pairs((SIGNS, givens, RULES), lines)
            for many in range(1, len(lines) + 1):
                self.assertEqual(lead(lines[:many], givens), pairs[many - 1])
            one, other = pairs[-1]
            if max(len(one), len(other)) <= 30:
                self.assertIs(are_lines_for(SIGNS, givens, lines, one, other, rules=RULES), True)
                self.assertIs(are_lines_for(SIGNS, givens, lines, other, one, rules=RULES), one == other)
                self.assertIs(are_lines_for(SIGNS, givens, lines, (G, A), other, rules=RULES), one == (G, A))

    def test_one_thing_otherwise_at_any_depth(self):
        by_hand = (("self", (F, A, B)), ("given", 0), ("turned", 1), ("joined", 1, 2), ("parts", F, (1, 2)),
                   ("rule", 0, ((A,), (G, B))), ("rule", 2, ()), ("turned", 6), ("joined", 2, 1), ("parts", B, ()))
        asked = 0
        for lines in [by_hand] + [drawn_lines(random.Random(seed), 8, GIVENS, RULES) for seed in range(12)]:
            handed = copy.deepcopy(lines)
            for wrong in otherwise(lines):
                pairs = slow_pairs(GROUNDS, wrong)
                told = lead(wrong)
                self.assertEqual(told, None if pairs is None else pairs[-1], wrong)
                self.assertIs(are_lines_for(SIGNS, GIVENS, wrong, (A,), (B,), rules=RULES), told == ((A,), (B,)))
                if pairs is None:
                    self.refused(errors.NoLines, {}, leaned, SIGNS, GIVENS, wrong, rules=RULES)
                asked += pairs is None
            self.assertEqual(lines, handed)
        self.assertGreater(asked, 2000)

    def test_leaned(self):
        for seed in range(80):
            dice = random.Random(seed)
            lines = drawn_lines(dice, dice.randrange(1, 25), GIVENS, RULES)
            told = leaned(SIGNS, GIVENS, lines, rules=RULES)
            self.assertEqual(told, slow_leaned(GROUNDS, lines))
            self.assertTrue(are_lean(GROUNDS, told))
            self.assertEqual(lead(told), lead(lines))
            self.assertEqual(leaned(SIGNS, GIVENS, told, rules=RULES), told)


class Leaned(Case):
    def leans(self, lines, told, rules=()):
        self.assertEqual(leaned(SIGNS, GIVENS, lines, rules=rules), told)
        self.assertEqual(leaned(SIGNS, GIVENS, told, rules=rules), told)
        self.assertIs(type(leaned(SIGNS, GIVENS, lines, rules=rules)), tuple)

    def test_lean_ones_stay(self):
        for lines in (LEADING, (("given", 0), ("turned", 0)), (("given", 1), ("given", 0), ("turned", 1), ("joined", 0, 2)),
                      (("given", 0), ("given", 1), ("parts", F, (0, 1))), (("parts", A, ()), ("parts", G, (0,)))):
            self.leans(lines, lines)

    def test_the_first_stands_for_all(self):
        self.leans((("given", 0), ("given", 0), ("parts", F, (0, 1))), (("given", 0), ("parts", F, (0, 0))))
        self.leans((("self", (A,)), ("parts", A, ()), ("parts", F, (1, 0))), (("self", (A,)), ("parts", F, (0, 0))))
        self.leans((("parts", A, ()), ("self", (A,)), ("parts", F, (1, 0))), (("parts", A, ()), ("parts", F, (0, 0))))
        self.leans((("given", 0), ("turned", 0), ("turned", 1), ("parts", G, (2,))), (("given", 0), ("parts", G, (0,))))
        self.leans((("given", 0), ("turned", 0), ("joined", 0, 1), ("self", (A,)), ("joined", 3, 0), ("parts", F, (3, 4))),
                   (("given", 0), ("turned", 0), ("joined", 0, 1), ("parts", F, (2, 0))))

    def test_what_nobody_needs(self):
        self.leans((("self", (B,)), ("given", 0), ("given", 1), ("turned", 1)), (("given", 0), ("turned", 0)))
        self.leans((("given", 1), ("turned", 0), ("turned", 1), ("self", (A,))), (("self", (A,)),))
        self.leans((("self", (A,)), ("given", 0), ("turned", 1), ("joined", 1, 2), ("parts", G, (3,))),
                   (("self", (A,)), ("parts", G, (0,))))

    def test_the_pair_of_the_last_line_shown_ahead(self):
        self.leans((("given", 0), ("given", 1), ("given", 0)), (("given", 0),))
        self.leans((("given", 0), ("turned", 0), ("turned", 1)), (("given", 0),))
        self.leans((("self", (B,)), ("given", 0), ("turned", 1), ("joined", 0, 2)), (("given", 0), ("turned", 0)))
        self.leans((("given", 0), ("turned", 0), ("joined", 1, 0), ("turned", 2)), (("given", 0), ("turned", 0), ("joined", 1, 0)))

    def test_with_rules(self):
        self.leans((("rule", 1, ((A,),)), ("rule", 0, ((A,), (A,))), ("rule", 1, ((A,),)), ("turned", 2)),
                   (("rule", 1, ((A,),)), ("turned", 0)), RULES)
        self.leans((("given", 1), ("rule", 2, ()), ("parts", G, (1,))), (("given", 1), ("parts", G, (0,))), RULES)

    def test_many_lines(self):
        many = (("given", 0),) + tuple(("turned", place) for place in range(19999))
        self.leans(many, (("given", 0), ("turned", 0)))
        rows = [("self", (A,))]
        for place in range(199):
            rows.append(("parts", G, (place,)))
        self.leans(tuple(rows), tuple(rows))
        self.refused(errors.NoLines, {}, leaned, SIGNS, (), tuple(rows) + (("parts", G, (199,)),))


class Refused(Case):
    def each(self, signs, givens, lines, rules):
        """The three ways to be asked, each as (function, arguments by place)."""
        return [(led, (signs, givens, lines)), (are_lines_for, (signs, givens, lines, (A,), (A,))),
                (are_lines_for, (signs, givens, lines, None, ())), (leaned, (signs, givens, lines))]

    def test_no_signs(self):
        for signs in NO_SIGNS + odd_things():
            for givens, lines, rules in (((), LEADING, ()), (None, None, None)):
                for function, told in self.each(signs, givens, lines, rules):
                    self.refused(errors.NoSigns, {}, function, *told, rules=rules)

    def test_no_givens(self):
        for givens in NO_GIVENS + odd_things():
            if givens != ():
                for lines, rules in ((LEADING, ()), (None, None)):
                    for function, told in self.each(SIGNS, givens, lines, rules):
                        self.refused(errors.NoGivens, {}, function, *told, rules=rules)

    def test_sixty_givens(self):
        givens = (((A,), (B,)),) * 59 + (((G, A), (B,)),)
        self.assertEqual(led(SIGNS, givens, (("given", 59),)), ((G, A), (B,)))
        self.assertIs(are_lines_for(SIGNS, givens, (("given", 59),), (G, A), (B,)), True)
        self.assertEqual(leaned(SIGNS, givens, (("given", 0), ("given", 59))), (("given", 59),))
        self.assertIsNone(led(SIGNS, givens, (("given", 60),)))
        for function, told in self.each(SIGNS, givens + givens[:1], LEADING, ()):
            self.refused(errors.NoGivens, {}, function, *told)

    def test_no_rules(self):
        for rules in NO_RULES + odd_things():
            if rules != ():
                for lines in (LEADING, None):
                    for function, told in self.each(SIGNS, GIVENS, lines, rules):
                        self.refused(errors.NoRules, {}, function, *told, rules=rules)

    def test_no_term_ahead_of_the_lines(self):
        for wrong in NO_TERMS + odd_things():
            for lines in (LEADING, None, ()):
                self.refused(errors.NoTerm, {"at": 0}, are_lines_for, SIGNS, GIVENS, lines, wrong, (A,))
                self.refused(errors.NoTerm, {"at": 1}, are_lines_for, SIGNS, GIVENS, lines, (A,), wrong, rules=RULES)
                self.refused(errors.NoTerm, {"at": 0}, are_lines_for, SIGNS, GIVENS, lines, wrong, wrong)

    def test_no_lines(self):
        for wrong in odd_things() + [(), [("self", (A,))], (("given", 3),), (("rule", 0, ((A,), (A,))),)]:
            self.refused(errors.NoLines, {}, leaned, SIGNS, GIVENS, wrong)
            self.assertIsNone(led(SIGNS, GIVENS, wrong))
            self.assertIs(are_lines_for(SIGNS, GIVENS, wrong, (A,), (A,)), False)

    def test_just_these(self):
        lines = (("given", 0), ("turned", 0))
        for one, other, fine in (((B,), (A,), True), ((A,), (B,), False), ((B,), (B,), False), ((A,), (A,), False)):
            self.assertIs(are_lines_for(SIGNS, GIVENS, lines, one, other), fine)


if __name__ == "__main__":
    unittest.main()
