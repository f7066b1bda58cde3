"""Signs, terms, pairs and lines, written and read: just what is so written."""

import re
import unittest

from helper import A, B, F, G, H, NO_SIGNS, NO_TERMS, SIGNS, Case, book_of, chain, is_number, odd_things, otherwise
from helper import slow_term, terms_to, tree_of
from likenest import errors
from likenest.lines import lines_for
from likenest.terms import are_signs
from likenest.texts import lines_text, pair_text, read_lines, read_pair, read_signs, read_term
from likenest.texts import signs_text, term_text

ALPHABET = " (),=/0129abcfghz\n\t~A_"
FORTY = 10 ** 40 - 1
LINES = (("self", (F, A, G, B)), ("given", 0), ("turned", 12), ("joined", 3, 45), ("parts", F, (0, 10)), ("parts", A, ()),
         ("parts", H, (1, 2, 3)), ("rule", 5, ()), ("rule", 0, ((A,), (G, B), (H, A, A, A))), ("rule", 2, ((B,),)))
TEXT = "\n".join(["self f(a,g(b))", "given 0", "turned 12", "joined 3 45", "parts f 0 10", "parts a", "parts h 1 2 3",
                  "rule 5", "rule 0 a g(b) h(a,a,a)", "rule 2 b"])


def slow_text(signs, tree):
    inside = ",".join(slow_text(signs, part) for part in tree[1:])
    return signs[tree[0]][0] + (f"({inside})" if inside else "")


def slow_read(signs, text):
    """The term of a text, None where it is none: read from its begin to its end."""
    numbers = {name: number for number, (name, parts) in enumerate(signs)}

    def read(place):
        name = re.match(r"[a-z]*", text[place:]).group()
        if name not in numbers:
            return None
        term, place = (numbers[name],), place + len(name)
        many = signs[numbers[name]][1]
        for part in range(many):
            if text[place:place + 1] != ("," if part else "("):
                return None
            found = read(place + 1)
            if found is None:
                return None
            term, place = term + found[0], found[1]
        if many and text[place:place + 1] != ")":
            return None
        return term, place + (1 if many else 0)

    found = read(0)
    return found[0] if found is not None and found[1] == len(text) and len(found[0]) <= 30 else None


def slow_read_pair(signs, text):
    sides = text.split(" = ")
    pair = tuple(slow_read(signs, side) for side in sides)
    return pair if len(sides) == 2 and None not in pair else None


def slow_line(signs, row):
    """The line of a row, None where it is none, by patterns of texts."""
    number, names = "(0|[1-9][0-9]{0,39})", "|".join(name for name, parts in signs)
    if found := re.fullmatch(r"self ([^ ]+)", row):
        term = slow_read(signs, found[1])
        return None if term is None else ("self", term)
    if found := re.fullmatch(f"(given|turned) {number}", row):
        return (found[1], int(found[2]))
    if found := re.fullmatch(f"joined {number} {number}", row):
        return ("joined", int(found[1]), int(found[2]))
    if found := re.fullmatch(f"parts ({names})((?: {number})*)", row):
        sign = [name for name, parts in signs].index(found[1])
        numbers = tuple(int(word) for word in found[2].split())
        return ("parts", sign, numbers) if len(numbers) == signs[sign][1] else None
    if found := re.fullmatch(f"rule {number}((?: [^ ]+){{0,3}})", row):
        terms = tuple(slow_read(signs, word) for word in found[2].split(" ")[1:])
        return None if None in terms else ("rule", int(found[1]), terms)
    return None


def slow_form(signs, line):
    """Whether it is one of the forms by itself, of anything."""
    def number(thing):
        return is_number(thing) and thing >= 0

    match line if type(line) is tuple else None:
        case ("self", term):
            return slow_term(signs, term)
        case ("given" | "turned", k):
            return number(k)
        case ("joined", i, j):
            return number(i) and number(j)
        case ("parts", sign, lines) if number(sign) and sign < len(signs) and type(lines) is tuple:
            return len(lines) == signs[sign][1] and all(number(i) for i in lines)
        case ("rule", r, terms) if type(terms) is tuple:
            return number(r) and len(terms) <= 3 and all(slow_term(signs, term) for term in terms)
    return False


def changed(text):
    """The text with one sign otherwise, gone, or more, in all ways."""
    for place in range(len(text) + 1):
        yield text[:place] + text[place + 1:]
        yield text[:place] + text[place:place + 1] + text[place:]
        for sign in ALPHABET:
            yield text[:place] + sign + text[place:]
            yield text[:place] + sign + text[place + 1:]


def rows_of(text):
    """The number of the first row that is none, from 1, None where each is one."""
    for row, line in enumerate(text.split("\n"), start=1):
        if slow_line(SIGNS, line) is None:
            return row
    return None


class Signs(Case):
    def test_written(self):
        self.assertEqual(signs_text((("a", 0), ("f", 2))), "a/0 f/2")
        self.assertEqual(signs_text(SIGNS), "a/0 b/0 g/1 f/2 h/3")
        self.assertEqual(signs_text(signs=(("zzzzzz", 0),)), "zzzzzz/0")
        for signs in NO_SIGNS + odd_things():
            self.refused(errors.NoSigns, {}, signs_text, signs)

    def test_read(self):
        for signs in (SIGNS, (("a", 0),), (("f", 3), ("abcdef", 0)), tuple((name, 0) for name in "abcdefgh"), SIGNS[::-1]):
            self.assertEqual(read_signs(signs_text(signs)), signs)
            self.assertEqual(read_signs(text=signs_text(signs)), signs)
        told = read_signs("a/0 f/2")
        self.assertEqual((type(told), told, {type(sign) for sign in told}), (tuple, (("a", 0), ("f", 2)), {tuple}))

    def test_texts_that_are_none(self):
        for text in ("", " ", "a", "a/", "/0", "a/0 ", " a/0", "a/0  f/2", "a/0,f/2", "f/2", "a/0 a/1", "a/4 b/0", "a/00",
                     "a/0 f/02", "a/-1 b/0", "a/+0", "A/0", "a/0\n", "a/0\nf/2", "a/0\tf/2", "abcdefg/0", "a/0/0", "a//0",
                     "a/0 f/10", "a /0", "a/ 0", "a/0 b/x", "a/0" * 1000, "a/0 " * 1000, "/", "a1/0", "a/0 f/" + "9" * 41,
                     " ".join(name + "/0" for name in "abcdefghi"), "/".join("a0" * 2000)[:4000]):
            self.refused(errors.NoText, {"row": 1}, read_signs, text)

    def test_one_sign_otherwise(self):
        for text in ("a/0", "a/0 f/2", "abcdef/0 g/1 b/0"):
            for wrong in changed(text):
                words = [re.fullmatch("([a-z]{1,6})/([0-3])", word) for word in wrong.split(" ")]
                signs = tuple((word[1], int(word[2])) for word in words) if None not in words else None
                if are_signs(signs):
                    self.assertEqual(read_signs(wrong), signs)
                else:
                    self.refused(errors.NoText, {"row": 1}, read_signs, wrong)

    def test_what_is_no_text(self):
        for thing in odd_things() + [SIGNS, ("a/0",), ["a/0"]]:
            if thing != "a/0":
                self.refused(errors.NoText, {"row": 1 if type(thing) is str else 0}, read_signs, thing)


class Terms(Case):
    def test_written(self):
        self.assertEqual(term_text(SIGNS, (F, A, G, B)), "f(a,g(b))")
        self.assertEqual(term_text(term=(H, A, B, G, A), signs=SIGNS), "h(a,b,g(a))")
        self.assertEqual(term_text(SIGNS, (A,)), "a")
        self.assertEqual(term_text(SIGNS, chain(30)), "g(" * 29 + "a" + ")" * 29)
        self.assertEqual(term_text((("abcdef", 0), ("zzzzzz", 1)), (1, 1, 0)), "zzzzzz(zzzzzz(abcdef))")
        for term in terms_to(5):
            self.assertEqual(term_text(SIGNS, term), slow_text(SIGNS, tree_of(SIGNS, term)))

    def test_read(self):
        for term in terms_to(5) + [chain(30), (F,) * 14 + (B,) * 15, (H,) + chain(9) + chain(10) + chain(10)]:
            text = term_text(SIGNS, term)
            self.assertEqual((type(read_term(SIGNS, text)), read_term(SIGNS, text)), (tuple, term))
        self.assertEqual(read_term(text="f(a,g(b))", signs=SIGNS), (F, A, G, B))

    def test_names_that_begin_with_others(self):
        signs = (("a", 0), ("aa", 0), ("f", 1), ("fa", 1), ("faa", 2))
        for term in terms_to(5, signs):
            self.assertEqual(read_term(signs, term_text(signs, term)), term)
        for text in ("faaa", "f(aaa)", "fa", "faa(a)", "f(a,a)", "f a", "fa(a", "a(a)"):
            self.refused(errors.NoText, {"row": 1}, read_term, signs, text)

    def test_one_sign_otherwise(self):
        seen = 0
        for text in ("a", "g(b)", "f(a,g(b))", "h(f(a,b),a,g(g(a)))"):
            for wrong in changed(text):
                term = slow_read(SIGNS, wrong)
                if term is None:
                    self.refused(errors.NoText, {"row": 1}, read_term, SIGNS, wrong)
                else:
                    self.assertEqual(read_term(SIGNS, wrong), term)
                    seen += 1
        self.assertGreater(seen, 30)

    def test_texts_that_are_none(self):
        for text in ("", " ", "a ", " a", "a\n", "\na", "A", "x", "f", "f()", "f(a)", "f(a,b,a)", "f(a, b)", "f(a ,b)", "f (a,b)",
                     "f(a,b) ", "f(a,b", "f(a,b))", "(a)", "((a))", "a()", "a,b", "f,a,b", "f(a,b),", "f((a),b)", "g(a,)",
                     "g(,a)", "f a b", "f(a)(b)", "fab", "0", "(3,0,1)", "a = b", "g" * 4000, "g(" * 1300 + "a" + ")" * 1300,
                     "g(" * 30 + "a" + ")" * 30, "(" * 4000, "," * 4000, "a," * 2000, "f(b)a", "f(a(b))", "g(a)b", "ag()"):
            self.refused(errors.NoText, {"row": 1}, read_term, SIGNS, text)

    def test_thirty_and_thirty_one_numbers(self):
        self.assertEqual(read_term(SIGNS, "g(" * 29 + "a" + ")" * 29), chain(30))
        self.refused(errors.NoText, {"row": 1}, read_term, SIGNS, "g(" * 30 + "a" + ")" * 30)
        self.refused(errors.NoTerm, {"at": 0}, term_text, SIGNS, chain(31))

    def test_refusals_in_their_order(self):
        for signs in NO_SIGNS + odd_things():
            self.refused(errors.NoSigns, {}, term_text, signs, (A,))
            self.refused(errors.NoSigns, {}, term_text, signs, None)
            for text in ("a", "", None):
                self.refused(errors.NoSigns, {}, read_term, signs, text)
        for term in NO_TERMS + odd_things():
            self.refused(errors.NoTerm, {"at": 0}, term_text, SIGNS, term)
        for thing in odd_things() + [(A,), ["a"], ("a",)]:
            if type(thing) is not str:
                self.refused(errors.NoText, {"row": 0}, read_term, SIGNS, thing)


class Pairs(Case):
    def test_written(self):
        self.assertEqual(pair_text(SIGNS, (F, A, G, B), (A,)), "f(a,g(b)) = a")
        self.assertEqual(pair_text(other=(B,), one=(A,), signs=SIGNS), "a = b")

    def test_read(self):
        self.assertEqual(read_pair(SIGNS, "f(a,g(b)) = a"), ((F, A, G, B), (A,)))
        self.assertEqual(read_pair(text="a = a", signs=SIGNS), ((A,), (A,)))
        told = read_pair(SIGNS, "g(a) = b")
        self.assertEqual([type(told), type(told[0]), type(told[1])], [tuple, tuple, tuple])
        some = terms_to(3)
        for one in some:
            for other in some:
                self.assertEqual(read_pair(SIGNS, pair_text(SIGNS, one, other)), (one, other))

    def test_one_sign_otherwise(self):
        for text in ("a = b", "f(a,g(b)) = g(a)"):
            for wrong in changed(text):
                pair = slow_read_pair(SIGNS, wrong)
                if pair is None:
                    self.refused(errors.NoText, {"row": 1}, read_pair, SIGNS, wrong)
                else:
                    self.assertEqual(read_pair(SIGNS, wrong), pair)

    def test_texts_that_are_none(self):
        for text in ("", "a", " = ", "a = ", " = a", "a=b", "a =b", "a= b", "a  = b", "a =  b", "a = b = a", "a = b ", " a = b",
                     "a = b\n", "a\n=\nb", "a == b", "a = x", "x = a", "= a b", "a b =", "a = b =", "a\t=\tb", "f(a = b)",
                     "f(a,a = b)", "a = " + "g(" * 30 + "a" + ")" * 30, " = " * 1333):
            self.refused(errors.NoText, {"row": 1}, read_pair, SIGNS, text)

    def test_refusals_in_their_order(self):
        for signs in NO_SIGNS + odd_things():
            self.refused(errors.NoSigns, {}, pair_text, signs, (A,), (A,))
            self.refused(errors.NoSigns, {}, pair_text, signs, None, None)
            for text in ("a = a", "", None):
                self.refused(errors.NoSigns, {}, read_pair, signs, text)
        for term in NO_TERMS + odd_things():
            self.refused(errors.NoTerm, {"at": 0}, pair_text, SIGNS, term, (A,))
            self.refused(errors.NoTerm, {"at": 0}, pair_text, SIGNS, term, None)
            self.refused(errors.NoTerm, {"at": 1}, pair_text, SIGNS, (A,), term)
        for thing in odd_things() + [((A,), (B,))]:
            self.refused(errors.NoText, {"row": 1 if type(thing) is str else 0}, read_pair, SIGNS, thing)


class Lines(Case):
    def test_written(self):
        self.assertEqual(lines_text(SIGNS, LINES), TEXT)
        for line, text in zip(LINES, TEXT.split("\n")):
            self.assertEqual(lines_text(lines=(line,), signs=SIGNS), text)
        self.assertEqual(lines_text(SIGNS, (("given", FORTY), ("turned", 10 ** 39))), f"given {FORTY}\nturned {10 ** 39}")
        self.assertEqual(lines_text(SIGNS, (("joined", 7, 7),) * 3), "joined 7 7\njoined 7 7\njoined 7 7")

    def test_read(self):
        self.assertEqual(read_lines(SIGNS, TEXT), LINES)
        self.assertEqual(read_lines(text="given 0", signs=SIGNS), (("given", 0),))
        for line, text in zip(LINES, TEXT.split("\n")):
            told = read_lines(SIGNS, text)
            self.assertEqual((type(told), told, type(told[0])), (tuple, (line,), tuple))
        self.assertEqual(read_lines(SIGNS, "parts a\nrule 0"), (("parts", A, ()), ("rule", 0, ())))

    def test_by_itself_alone(self):
        # Numbers of lines behind, of givens and rules that there are not, and terms however many.
        lines = (("joined", 5, 0), ("turned", 0), ("given", 99), ("rule", 9, ((A,),)), ("parts", G, (4,)))
        self.assertEqual(read_lines(SIGNS, lines_text(SIGNS, lines)), lines)

    def test_lines_of_books(self):
        book = book_of([((G, A), (B,)), ((F, A, B), (G, B)), ((A,), (B,))])
        for one in book.known():
            for other in book.known():
                lines = lines_for(book, one, other)
                if lines is not None:
                    self.assertEqual(read_lines(SIGNS, lines_text(SIGNS, lines)), lines)

    def test_numbers(self):
        for number in (0, 1, 9, 10, 100, 10 ** 39, FORTY, int("1234567890" * 4)):
            self.assertEqual(read_lines(SIGNS, f"given {number}"), (("given", number),))
            self.assertEqual(read_lines(SIGNS, f"joined {number} 0"), (("joined", number, 0),))
            self.assertEqual(read_lines(SIGNS, f"parts g {number}"), (("parts", G, (number,)),))
            self.assertEqual(read_lines(SIGNS, f"rule {number}"), (("rule", number, ()),))
        for word in ("00", "01", "000", "0" * 40, "0" * 41, "9" * 41, "1" + "0" * 40, "", "-1", "+1", "-0", "1_0", "1.0", "1e3",
                     "0x1", "a", "1a", "1,000", "1\t", "~"):
            for text in (f"given {word}", f"turned {word}", f"joined {word} 0", f"joined 0 {word}", f"parts g {word}",
                         f"parts f 0 {word}", f"rule {word}", f"rule {word} a"):
                self.refused(errors.NoText, {"row": 1}, read_lines, SIGNS, text)
                self.refused(errors.NoText, {"row": 2}, read_lines, SIGNS, "given 0\n" + text)

    def test_rows_that_are_none(self):
        for row in ("", " ", "self", "self ", "self x", "self a b", "self a ", " self a", "self  a", "given", "given ", "given 0 ",
                    "given 0 0", " given 0", "given  0", "given a", "turned", "turned 0 1", "joined", "joined 0", "joined 0 1 2",
                    "joined 0  1", "parts", "parts ", "parts x", "parts f", "parts f 0", "parts f 0 1 2", "parts a 0", "parts a ",
                    "parts g", "parts 2 0", "parts g(a) 0", "rule", "rule ", "rule a", "rule 0 ", "rule 0  a", "rule 0 a a a a",
                    "rule 0 x", "rule 0 a x", "rule 0 0", "Self a", "selfa", "GIVEN 0", "given\t0", "a", "a = b", "none 0", "~",
                    "self f(a, b)", "self a\t", "\tself a", "joined 0,1", "self " + "g(" * 30 + "a" + ")" * 30, "x" * 4000):
            self.refused(errors.NoText, {"row": 1}, read_lines, SIGNS, row)
            self.refused(errors.NoText, {"row": 1}, read_lines, SIGNS, row + "\ngiven 0")
            self.refused(errors.NoText, {"row": 3}, read_lines, SIGNS, "given 0\nself a\n" + row)
            self.refused(errors.NoText, {"row": 2}, read_lines, SIGNS, "given 0\n" + row + "\n\ngiven")

    def test_empty_texts_and_line_ends(self):
        for text, row in (("", 1), ("\n", 1), ("\n\n", 1), ("given 0\n", 2), ("\ngiven 0", 1), ("given 0\n\ngiven 1", 2),
                          ("given 0\ngiven 1\n", 3), ("\n" * 4000, 1)):
            self.refused(errors.NoText, {"row": row}, read_lines, SIGNS, text)

    def test_one_sign_otherwise(self):
        seen = 0
        for text in TEXT.split("\n") + ["given 0\nself a\nrule 1 a"]:
            for wrong in changed(text):
                row = rows_of(wrong)
                if row is not None:
                    self.refused(errors.NoText, {"row": row}, read_lines, SIGNS, wrong)
                else:
                    self.assertEqual(read_lines(SIGNS, wrong), tuple(slow_line(SIGNS, line) for line in wrong.split("\n")))
                    self.assertEqual(lines_text(SIGNS, read_lines(SIGNS, wrong)), wrong)
                    seen += 1
        self.assertGreater(seen, 100)

    def test_twenty_thousand_lines(self):
        lines = (("given", 0),) * 20000
        text = lines_text(SIGNS, lines)
        self.assertEqual(text, "\n".join(["given 0"] * 20000))
        self.assertEqual(read_lines(SIGNS, text), lines)
        self.refused(errors.NoLines, {}, lines_text, SIGNS, lines + lines[:1])
        self.refused(errors.NoText, {"row": 20001}, read_lines, SIGNS, text + "\ngiven 0")

    def test_no_lines(self):
        for lines in ((), [], [("given", 0)], ("given", 0), (["given", 0],), (("given",),), (("given", 0, 0),), (("given", -1),),
                      (("given", True),), (("given", "0"),), (("given", (0,)),), (("turned", None),), (("turned", False),),
                      (("joined", 0),), (("joined", 0, 1, 2),), (("joined", 0, -1),), (("joined", True, 0),), (("self",),),
                      (("self", (G,)),), (("self", (True,)),), (("self", chain(31)),), (("self", (A,), (A,)),), (("self", "a"),),
                      (("parts", F, (0,)),), (("parts", F, (0, 1, 2)),), (("parts", F, [0, 1]),), (("parts", 5, ()),),
                      (("parts", -1, ()),), (("parts", "f", (0, 1)),), (("parts", False, ()),), (("parts", G, (True,)),),
                      (("parts", G, (-1,)),), (("parts", G, 0),), (("parts", A),), (("rule", 0),), (("rule", 0, (A,)),),
                      (("rule", -1, ()),), (("rule", True, ()),), (("rule", 0, [(A,)]),), (("rule", 0, ((A,),) * 4),),
                      (("rule", 0, ((5,),)),), (("rule", 0, (chain(31),)),), (("none", 0),), (("", 0),), (("Self", (A,)),),
                      ((0, 0),), ((),), (None,), None, 0, "given 0", {}):
            self.refused(errors.NoLines, {}, lines_text, SIGNS, lines)
            if type(lines) is tuple and len(lines) == 1:
                self.refused(errors.NoLines, {}, lines_text, SIGNS, (("given", 0),) + lines)
                self.refused(errors.NoLines, {}, lines_text, SIGNS, lines + (("given", 0),))

    def test_one_thing_otherwise_at_any_depth(self):
        told = []
        for wrong in otherwise(LINES):
            told.append(type(wrong) is tuple and len(wrong) > 0 and all(slow_form(SIGNS, line) for line in wrong))
            if told[-1]:
                text = lines_text(SIGNS, wrong)
                rows = text.split("\n")
                self.assertEqual(len(rows), len(wrong))
                self.assertEqual(tuple(slow_line(SIGNS, row) for row in rows), wrong)
                self.assertEqual(read_lines(SIGNS, text), wrong)
            else:
                self.refused(errors.NoLines, {}, lines_text, SIGNS, wrong)
        self.assertGreater(told.count(False), 300)
        self.assertGreater(told.count(True), 30)

    def test_refusals_in_their_order(self):
        for signs in NO_SIGNS + odd_things():
            for lines in (LINES, (), None):
                self.refused(errors.NoSigns, {}, lines_text, signs, lines)
            for text in (TEXT, "", None):
                self.refused(errors.NoSigns, {}, read_lines, signs, text)
        for thing in odd_things():
            self.refused(errors.NoLines, {}, lines_text, SIGNS, thing)
            self.refused(errors.NoLines, {}, lines_text, SIGNS, (("given", 0), thing))
            for line in (("self", thing), ("given", thing), ("parts", thing, ()), ("parts", A, thing), ("rule", thing, ()),
                         ("rule", 0, thing), ("rule", 0, (thing,)), ("joined", 0, thing), (thing, 0)):
                if not slow_form(SIGNS, line):
                    self.refused(errors.NoLines, {}, lines_text, SIGNS, (line,))
            self.refused(errors.NoText, {"row": 1 if type(thing) is str else 0}, read_lines, SIGNS, thing)


if __name__ == "__main__":
    unittest.main()
