"""A desk: each deed, each question, each refusal."""

import random
import unittest

from helper import A, B, C_SIGNS, F, G, NO_SIGNS, SIGNS, Case, chain, drawn_term, odd_things
from likenest import errors
from likenest.books import Book
from likenest.cores import core
from likenest.desk import Desk
from likenest.least import least
from likenest.texts import term_text
from likenest.torn import torn


class DeskCase(Case):
    def says(self, desk, *told):
        """To each line this is said, one after the other."""
        for line, answer in told:
            said = desk.say(line)
            self.assertEqual((type(said), said), (str, answer), line)

    def unmoved(self, desk, error, fields, line):
        """Refused so, and the desk tells what it told."""
        before = [desk.say(question) for question in ("book", "classes", "torn")]
        self.refused(error, fields, desk.say, line)
        self.assertEqual([desk.say(question) for question in ("book", "classes", "torn")], before)


class Deeds(DeskCase):
    def test_at_first(self):
        self.says(Desk(SIGNS), ("book", "Book of 0 terms, 0 givens, 0 unlikes, 0 levels"), ("classes", "none"), ("torn", "no"))

    def test_know(self):
        desk = Desk(signs=SIGNS)
        self.says(desk, ("know f(a,g(b))", "ok"), ("book", "Book of 4 terms, 0 givens, 0 unlikes, 0 levels"),
                  ("classes", "a / b / g(b) / f(a,g(b))"), ("know a", "ok"),
                  ("book", "Book of 4 terms, 0 givens, 0 unlikes, 0 levels"))
        self.assertEqual(desk.say(line="know h(a,a,a)"), "ok")

    def test_tell_and_part(self):
        desk = Desk(SIGNS)
        self.says(desk, ("tell g(a) = b", "ok 0"), ("tell a = b", "ok 1"), ("part a = f(a,a)", "ok 0"), ("tell a = a", "ok 2"),
                  ("part b = b", "ok 1"), ("book", "Book of 4 terms, 3 givens, 2 unlikes, 0 levels"))

    def test_numbers_of_more_than_one_figure(self):
        desk = Desk(SIGNS)
        for number in range(12):
            self.says(desk, ("tell a = b", f"ok {number}"), ("part a = g(a)", f"ok {number}"))
        for number in range(12, 24):
            self.says(desk, ("tell a = b", f"ok {number}"))

    def test_push_and_back(self):
        desk = Desk(SIGNS)
        self.says(desk, ("tell a = b", "ok 0"), ("push", "ok"), ("tell g(a) = a", "ok 1"), ("push", "ok"), ("know f(a,a)", "ok"),
                  ("book", "Book of 4 terms, 2 givens, 0 unlikes, 2 levels"), ("back 1", "ok"),
                  ("book", "Book of 3 terms, 2 givens, 0 unlikes, 1 levels"), ("push", "ok"), ("push", "ok"), ("back 3", "ok"),
                  ("book", "Book of 2 terms, 1 givens, 0 unlikes, 0 levels"))
        for level in range(12):
            self.says(desk, ("push", "ok"))
        self.says(desk, ("back 12", "ok"))


class Questions(DeskCase):
    def test_alike(self):
        desk = Desk(SIGNS)
        self.says(desk, ("alike a = a", "yes"), ("alike a = b", "no"), ("tell a = b", "ok 0"), ("alike a = b", "yes"),
                  ("alike f(a,g(b)) = f(b,g(a))", "yes"), ("alike g(a) = a", "no"),
                  ("book", "Book of 2 terms, 1 givens, 0 unlikes, 0 levels"))

    def test_why(self):
        desk = Desk(C_SIGNS)
        self.says(desk, ("tell a = b", "ok 0"), ("tell b = c", "ok 1"), ("tell c = a", "ok 2"), ("tell g(a) = d", "ok 3"),
                  ("why a = c", "0 1"), ("why c = a", "0 1"), ("why a = b", "0"), ("why g(c) = d", "0 1 3"), ("why a = a", "none"),
                  ("why f(a,a) = f(a,a)", "none"), ("why a = d", "no"), ("why f(a,a) = f(a,d)", "no"))
        self.says(Desk(SIGNS), ("why a = b", "no"), ("why a = a", "none"))

    def test_why_of_two_figures(self):
        desk = Desk(SIGNS)
        for number in range(10):
            self.says(desk, ("tell b = b", f"ok {number}"))
        self.says(desk, ("tell a = b", "ok 10"), ("tell g(a) = a", "ok 11"), ("why g(b) = a", "10 11"))

    def test_first(self):
        desk = Desk(SIGNS)
        self.says(desk, ("tell f(a,b) = g(b)", "ok 0"), ("first f(a,b)", "g(b)"), ("first b", "b"), ("tell b = a", "ok 1"),
                  ("first b", "a"), ("first f(a,b)", "g(b)"))

    def test_classes(self):
        desk = Desk(SIGNS)
        self.says(desk, ("know a", "ok"), ("classes", "a"), ("tell g(a) = b", "ok 0"), ("classes", "a / b g(a)"),
                  ("know f(g(a),b)", "ok"), ("know f(b,b)", "ok"), ("classes", "a / b g(a) / f(b,b) f(g(a),b)"),
                  ("tell a = b", "ok 1"), ("classes", "a b g(a) / f(b,b) f(g(a),b)"))

    def test_least(self):
        desk = Desk(SIGNS)
        self.says(desk, ("tell g(a) = b", "ok 0"), ("know f(g(a),g(a))", "ok"), ("least f(g(a),g(a))", "3 f(b,b)"),
                  ("least g(a)", "1 b"), ("least a", "1 a"), ("know " + "g(" * 29 + "a" + ")" * 29, "ok"),
                  ("least " + "g(" * 29 + "a" + ")" * 29, "29 " + "g(" * 28 + "b" + ")" * 28))

    def test_torn(self):
        desk = Desk(SIGNS)
        self.says(desk, ("part a = g(a)", "ok 0"), ("part a = b", "ok 1"), ("torn", "no"), ("push", "ok"), ("tell a = b", "ok 0"),
                  ("torn", "1"), ("tell g(b) = b", "ok 1"), ("torn", "0"), ("back 1", "ok"), ("torn", "no"))
        for number in range(2, 12):
            self.says(desk, ("part a = b", f"ok {number}"))
        desk = Desk(SIGNS)
        for number in range(10):
            self.says(desk, ("part a = b", f"ok {number}"))
        self.says(desk, ("part a = a", "ok 10"), ("torn", "10"))

    def test_questions_make_nothing_known(self):
        desk = Desk(SIGNS)
        for line in ("alike a = b", "why a = b", "why a = a", "classes", "torn", "book"):
            desk.say(line)
        self.says(desk, ("book", "Book of 0 terms, 0 givens, 0 unlikes, 0 levels"))


class Refusals(DeskCase):
    def desk(self):
        desk = Desk(SIGNS)
        for line in ("tell g(a) = b", "push", "part a = b"):
            desk.say(line)
        return desk

    def test_no_signs(self):
        for signs in NO_SIGNS + odd_things():
            self.refused(errors.NoSigns, {}, Desk, signs)

    def test_lines_that_are_none(self):
        desk = self.desk()
        for line in ("", " ", "  ", "know", "know ", " know a", "know a ", "know  a", "know a b", "know a = b", "tell", "tell a",
                     "tell a b", "tell a = ", "tell a =", "tell = b", "tell a  = b", "tell a =  b", "tell a = b ", " tell a = b",
                     "tell a = b = a", "tell a == b", "tell a=b", "tell a - b", "part", "part a", "part a b", "part a = b a",
                     "push ", " push", "push 1", "push a", "back", "back ", "back 1 1", "back 1 ", "back  1", "alike", "alike a",
                     "alike a b", "alike a = b = b", "why", "why a", "why a b", "first", "first a b", "first a = b", "classes a",
                     "classes ", "least", "least a b", "least a 1", "torn 0", "torn ", "book ", "book a", "Book", "KNOW a",
                     "Push", "ok", "none", "yes", "no", "a", "a = b", "=", "levels", "known", "givens", "potentials a", "level",
                     "know\ta", "push\n", "\npush", "book\n", "back\n1", "tell\na\n=\nb", "know\na", "~", "x" * 4000,
                     " ".join("x" * 2000), "unknow a", "knows a", "knowa"):
            self.unmoved(desk, errors.NoLine, {}, line)

    def test_numbers_of_levels(self):
        desk = self.desk()
        for word in ("00", "01", "001", "-1", "+1", "1.0", "a", "1a", "0x1", "1_0", "one", "9" * 41, "0" * 40, "1\n", "\t1", "=", "~"):
            self.unmoved(desk, errors.NoLine, {}, "back " + word)
        for word in ("0", "2", "3", "10", "12", "13", "9" * 40, "1" + "0" * 39):
            self.unmoved(desk, errors.NoLevel, {"left": 1}, "back " + word)
        self.assertEqual(desk.say("back 1"), "ok")
        for word in ("0", "1", "9" * 40):
            self.unmoved(desk, errors.NoLevel, {"left": 0}, "back " + word)

    def test_words_that_are_no_terms(self):
        desk = self.desk()
        for word in ("x", "A", "f", "f()", "f(a)", "a()", "f(a,a", "f(a,b))", "=", "0", "(a)", "a\n", "a\t", "~", ",", "f(a,a,a)",
                     "g(" * 30 + "a" + ")" * 30, "g" * 2000, "a=b"):
            for line in ("know " + word, "first " + word, "least " + word):
                self.unmoved(desk, errors.NoText, {"row": 1}, line)
            for verb in ("tell", "part", "alike", "why"):
                self.unmoved(desk, errors.NoText, {"row": 1}, f"{verb} {word} = a")
                self.unmoved(desk, errors.NoText, {"row": 1}, f"{verb} a = {word}")
                self.unmoved(desk, errors.NoText, {"row": 1}, f"{verb} {word} = {word}")

    def test_terms_that_are_not_known(self):
        desk = self.desk()
        for verb in ("first", "least"):
            for word, term in (("g(b)", (G, B)), ("f(a,a)", (F, A, A)), ("g(" * 29 + "a" + ")" * 29, chain(30))):
                self.unmoved(desk, errors.NotKnown, {"term": term}, f"{verb} {word}")
        self.unmoved(Desk(SIGNS), errors.NotKnown, {"term": (A,)}, "first a")
        self.unmoved(Desk(SIGNS), errors.NotKnown, {"term": (A,)}, "least a")

    def test_too_many(self):
        desk = Desk(SIGNS)
        for level in range(12):
            desk.say("push")
        self.unmoved(desk, errors.TooMany, {"many": 13, "most": 12}, "push")
        for number in range(12):
            desk.say("part a = b")
        self.unmoved(desk, errors.TooMany, {"many": 13, "most": 12}, "part a = b")
        for number in range(24):
            desk.say("tell a = a")
        self.unmoved(desk, errors.TooMany, {"many": 25, "most": 24}, "tell a = a")
        desk.say("know " + "g(" * 29 + "a" + ")" * 29)
        self.unmoved(desk, errors.TooMany, {"many": 41, "most": 40}, "know " + "g(" * 10 + "b" + ")" * 10)
        self.unmoved(desk, errors.TooMany, {"many": 25, "most": 24}, "tell a = " + "g(" * 10 + "b" + ")" * 10)

    def test_anything(self):
        desk = self.desk()
        for thing in odd_things() + [["push"], ("push",), {"push": 0}, ["know", "a"], (A,)]:
            self.unmoved(desk, errors.NoLine, {}, thing)


class Desks(DeskCase):
    def test_two_desks_have_nothing_in_common(self):
        one, other = Desk(SIGNS), Desk(SIGNS)
        one.say("tell a = b")
        one.say("push")
        self.says(other, ("book", "Book of 0 terms, 0 givens, 0 unlikes, 0 levels"), ("alike a = b", "no"))
        other.say("know g(a)")
        self.says(one, ("book", "Book of 2 terms, 1 givens, 0 unlikes, 1 levels"))
        self.refused(errors.NoLevel, {"left": 0}, other.say, "back 1")

    def test_other_signs(self):
        desk = Desk((("nil", 0), ("cons", 2)))
        self.says(desk, ("tell cons(nil,nil) = nil", "ok 0"), ("classes", "nil cons(nil,nil)"),
                  ("alike cons(cons(nil,nil),nil) = nil", "yes"), ("why cons(cons(nil,nil),nil) = nil", "0"))
        self.refused(errors.NoText, {"row": 1}, desk.say, "know a")

    def test_drawn_histories_against_a_book(self):
        for seed in range(60):
            dice = random.Random(seed)
            desk, book = Desk(C_SIGNS), Book(C_SIGNS)

            def draw():
                term = drawn_term(dice, C_SIGNS)
                return term, term_text(C_SIGNS, term)

            for turn in range(25):
                (one, left), (other, right) = draw(), draw()
                verb = dice.choice(("know", "tell", "tell", "part", "push", "back"))
                if verb == "know":
                    self.same(lambda: book.know(one), lambda told: "ok", desk, f"know {left}")
                elif verb == "push":
                    self.same(book.push, lambda told: "ok", desk, "push")
                elif verb == "back":
                    levels = dice.randrange(4)
                    self.same(lambda: book.back(levels), lambda told: "ok", desk, f"back {levels}")
                else:
                    deed = book.tell if verb == "tell" else book.part
                    self.same(lambda: deed(one, other), lambda told: f"ok {told}", desk, f"{verb} {left} = {right}")
                self.asked(desk, book, one, other, left, right)

    def same(self, deed, written, desk, line):
        """The desk says what is written of what the deed tells, or refuses likewise."""
        try:
            told = deed()
        except (errors.NestError, errors.AbsentError) as refusal:
            self.refused(type(refusal), vars(refusal), desk.say, line)
        else:
            self.assertEqual(desk.say(line), written(told))

    def asked(self, desk, book, one, other, left, right):
        alike = book.alike(one, other)
        classes = " / ".join(" ".join(term_text(C_SIGNS, term) for term in terms) for terms in book.classes())
        core_text = " ".join(str(number) for number in core(book, one, other)[0]) or "none" if alike else "no"
        self.says(desk, ("book", str(book)), ("classes", classes or "none"), (f"alike {left} = {right}", "yes" if alike else "no"),
                  (f"why {left} = {right}", core_text), ("torn", str(torn(book)[0]) if torn(book) else "no"))
        self.same(lambda: book.first(one), lambda told: term_text(C_SIGNS, told), desk, f"first {left}")
        self.same(lambda: least(book, other), lambda told: f"{told[0]} {term_text(C_SIGNS, told[1])}", desk, f"least {right}")


if __name__ == "__main__":
    unittest.main()
