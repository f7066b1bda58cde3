"""The interface: names of arguments, defaults, what goes by name alone; and point 2 for all but the terms."""

import copy
import inspect
import unittest

from helper import A, B, F, G, SIGNS, Case, book_of, odd_things, state
from likenest import books, compared, cores, desk, least, lines, models, patterns, rounds, texts, torn
from likenest.books import Book
from likenest.desk import Desk
from likenest.errors import AbsentError, NestError
from likenest.rounds import Rounds

# Each argument as (name, default); a star goes ahead of those by name alone.
FUNCTIONS = {
    lines.led: ["signs", "givens", "lines", "*", ("rules", ())],
    lines.are_lines_for: ["signs", "givens", "lines", "one", "other", "*", ("rules", ())],
    lines.leaned: ["signs", "givens", "lines", "*", ("rules", ())],
    lines.lines_for: ["book", "one", "other"],
    models.is_model: ["signs", "givens", "thing", "*", ("unlikes", ())],
    models.worth: ["signs", "model", "term"],
    models.model_of: ["book"],
    models.answer: ["book", "one", "other"],
    patterns.is_pattern: ["signs", "thing"],
    patterns.are_rules: ["signs", "thing"],
    patterns.matches: ["nest", "pattern"],
    books.Book: ["signs"],
    torn.torn: ["book"],
    torn.pops: ["book"],
    cores.core: ["book", "one", "other"],
    cores.is_core: ["signs", "givens", "one", "other", "thing"],
    compared.compared: ["one", "other"],
    rounds.Rounds: ["book", ("rules", ()), "*", ("most", 60)],
    least.least: ["nest", "term", "*", ("costs", None)],
    least.potentials: ["nest", "*", ("costs", None)],
    least.are_potentials: ["nest", "thing", "*", ("costs", None)],
    texts.signs_text: ["signs"],
    texts.term_text: ["signs", "term"],
    texts.pair_text: ["signs", "one", "other"],
    texts.lines_text: ["signs", "lines"],
    texts.read_signs: ["text"],
    texts.read_term: ["signs", "text"],
    texts.read_pair: ["signs", "text"],
    texts.read_lines: ["signs", "text"],
    desk.Desk: ["signs"],
}
OF_A_CLASS = {
    Book: {
        "know": ["term"], "push": [], "back": [("levels", 1)], "tell": ["one", "other"], "part": ["one", "other"],
        "alike": ["one", "other"], "tried": ["pairs", "one", "other"], "classes": [], "known": [], "first": ["term"],
        "givens": [], "unlikes": [], "levels": [], "signs": [], "twin": [], "__len__": [], "__str__": [],
        "__eq__": ["other"], "__init__": ["signs"],
    },
    Rounds: {
        "go": [], "go_on": [("most", 3)], "word": [], "done": [], "known": [], "classes": [], "first": ["term"],
        "signs": [], "alike": ["one", "other"], "answer": ["one", "other"], "__len__": [], "__str__": [],
        "__init__": ["book", ("rules", ()), "*", ("most", 60)],
    },
    Desk: {"say": ["line"], "__init__": ["signs"]},
}
GIVENS = (((A,), (B,)), ((G, A), (B,)))
LINES = (("given", 0), ("given", 0), ("parts", G, (1,)), ("rule", 0, ((A,),)), ("joined", 3, 1))
RULES = (((G, G, -1), (-1,)),)
MODEL = (2, 1, ((((), 0),), (((), 0),), (((0,), 0),), (), ()))
CORE = ((0,), (("given", 0),), ((2, 1, ((((), 0),), (), (), (), ())),))
# What each function may be handed in, with a list or two where the document has one.
ASKED = [
    (lines.led, (SIGNS, GIVENS, LINES), {"rules": RULES}, ((G, G, A), (B,))),
    (lines.are_lines_for, (SIGNS, GIVENS, LINES, (G, G, A), (B,)), {"rules": RULES}, True),
    (lines.leaned, (SIGNS, GIVENS, LINES), {"rules": RULES}, (("given", 0), ("rule", 0, ((A,),)), ("joined", 1, 0))),
    (models.is_model, (SIGNS, GIVENS, MODEL), {"unlikes": (((A,), (F, A, A)),)}, True),
    (models.worth, (SIGNS, MODEL, (G, B)), {}, 0),
    (patterns.is_pattern, (SIGNS, (G, -1)), {}, True),
    (patterns.are_rules, (SIGNS, RULES), {}, True),
    (cores.is_core, (SIGNS, GIVENS, (A,), (B,), CORE), {}, True),
    (texts.signs_text, (SIGNS,), {}, "a/0 b/0 g/1 f/2 h/3"),
    (texts.term_text, (SIGNS, (F, A, B)), {}, "f(a,b)"),
    (texts.pair_text, (SIGNS, (A,), (G, B)), {}, "a = g(b)"),
    (texts.lines_text, (SIGNS, LINES[1:4]), {}, "given 0\nparts g 1\nrule 0 a"),
    (texts.read_signs, ("a/0 b/0 g/1 f/2 h/3",), {}, SIGNS),
    (texts.read_term, (SIGNS, "f(a,b)"), {}, (F, A, B)),
    (texts.read_pair, (SIGNS, "a = g(b)"), {}, ((A,), (G, B))),
    (texts.read_lines, (SIGNS, "given 0\nparts g 1\nrule 0 a"), {}, LINES[1:4]),
]
OF_A_BOOK = [
    (lines.lines_for, ((A,), (B,)), (("given", 0),)),
    (lines.lines_for, ((A,), (F, A, A)), None),
    (models.model_of, (), MODEL),
    (models.answer, ((A,), (B,)), ("alike", (("given", 0),))),
    (models.answer, ((A,), (F, A, A)), ("unlike", (3, 2, ((((), 0),), (((), 0),), (((0,), 0),), (((0, 0), 1),), ())))),
    (patterns.matches, ((G, -1),), [((A,), (A,))]),
    (torn.torn, (), None),
    (torn.pops, (), 0),
    (cores.core, ((F, A, A), (F, A, A)), ((), (("self", (F, A, A)),), ())),
    (least.least, ((G, A),), (1, (A,))),
    (least.potentials, (), (((A,), 1),)),
    (least.are_potentials, ((((A,), 0),),), True),
    (Book.alike, ((A,), (G, B)), True),
    (Book.tried, ([((F, A, A), (A,))], (F, B, B), (A,)), True),
    (Book.classes, (), [[(A,), (B,), (G, A)]]),
    (Book.known, (), [(A,), (B,), (G, A)]),
    (Book.first, ((G, A),), (A,)),
    (Book.givens, (), GIVENS),
    (Book.unlikes, (), ()),
    (Book.levels, (), 0),
    (Book.signs, (), SIGNS),
    (len, (), 3),
    (str, (), "Book of 3 terms, 2 givens, 0 unlikes, 0 levels"),
]
OF_ROUNDS = [
    (Rounds.word, (), "still"),
    (Rounds.done, (), 1),
    (Rounds.known, (), [(A,), (B,), (G, A), (G, G, A)]),
    (Rounds.classes, (), [[(A,), (B,), (G, A), (G, G, A)]]),
    (Rounds.first, ((G, A),), (A,)),
    (Rounds.signs, (), SIGNS),
    (Rounds.alike, ((A,), (G, A)), True),
    (Rounds.answer, ((A,), (B,)), ("alike", (("given", 0),))),
    (Rounds.go, (), 0),
    (Rounds.go_on, (), "still"),
    (Rounds.go_on, (0,), "still"),
    (patterns.matches, ((G, -1),), [((A,), (A,))]),
    (least.least, ((G, G, A),), (1, (A,))),
    (least.potentials, (), (((A,), 1),)),
    (least.are_potentials, ((((A,), 2),),), False),
    (len, (), 4),
    (str, (), "Rounds still after 1, 4 terms"),
]


def shape(function):
    """The arguments of a function in the form of the tables above."""
    told = []
    for name, parameter in inspect.signature(function).parameters.items():
        if parameter.kind is parameter.KEYWORD_ONLY and "*" not in told:
            told.append("*")
        told.append(name if parameter.default is parameter.empty else (name, parameter.default))
    return told


class Interface(Case):
    def test_functions(self):
        for function, told in FUNCTIONS.items():
            self.assertEqual(shape(function), told, function)

    def test_methods_stand_in_the_class_itself(self):
        for kind, methods in OF_A_CLASS.items():
            for name, told in methods.items():
                self.assertIn(name, vars(kind))
                self.assertEqual(shape(vars(kind)[name]), ["self"] + told, (kind, name))

    def test_what_stands_behind_a_star_goes_by_name_alone(self):
        for function, told, by_name, answer in ASKED:
            self.assertEqual(function(*told, **by_name), answer)
            names = [name for name in inspect.signature(function).parameters if name not in by_name]
            self.assertEqual(function(**by_name, **dict(reversed(list(zip(names, told))))), answer)
            if by_name:
                with self.assertRaises(TypeError):
                    function(*told, *by_name.values())

    def test_asked_again(self):
        for function, told, by_name, answer in ASKED:
            for turn in range(2):
                self.assertEqual(function(*told, **by_name), answer)
        book = book_of(GIVENS)
        for turn in range(2):
            for function, told, answer in OF_A_BOOK:
                self.assertEqual(function(book, *told), answer, function)
        self.assertTrue(book == book_of(GIVENS))

    def test_lists_that_are_told_are_new(self):
        book = book_of(GIVENS)
        for function, told, answer in OF_A_BOOK:
            if type(answer) is list:
                first = function(book, *told)
                self.assertIsNot(function(book, *told), first)
                first.append(None)
                if type(first[0]) is list:
                    first[0].clear()
                self.assertEqual(function(book, *told), answer)

    def test_what_was_told_may_be_handed_in_again(self):
        book = book_of(GIVENS)
        told = models.answer(book, *book.givens()[1])
        self.assertIs(lines.are_lines_for(book.signs(), book.givens(), told[1], *book.givens()[1]), True)
        self.assertIs(models.is_model(book.signs(), book.givens(), models.model_of(book), unlikes=book.unlikes()), True)
        self.assertIs(Book(book.signs()).tried(list(book.givens()), book.known()[0], book.known()[2]), True)
        self.assertTrue(Book(book.signs()) == Book(SIGNS))

    def test_papers_that_were_told_may_be_handed_in_again(self):
        book = book_of(GIVENS)
        paper = cores.core(book, (G, B), (A,))
        self.assertEqual(paper[0], (0, 1))
        self.assertIs(cores.is_core(book.signs(), book.givens(), (G, B), (A,), paper), True)
        told = compared.compared(book, book.twin())
        for pair, papers in zip(GIVENS, told[1]):
            self.assertIs(lines.are_lines_for(book.signs(), book.givens(), papers, *pair), True)
        word, side, number, model = compared.compared(book, book_of(GIVENS + (((F, A, A), (A,)),)))
        self.assertIs(models.is_model(book.signs(), book.givens(), model, unlikes=(((F, A, A), (A,)),)), True)
        book.part((G, B), (A,))
        self.assertIs(lines.are_lines_for(book.signs(), book.givens(), torn.torn(book)[1], *book.unlikes()[0]), True)

    def test_what_rounds_told_may_be_handed_in_again(self):
        told = Rounds(book_of(GIVENS), RULES)
        told.go_on()
        word, paper = told.answer(told.known()[0], told.known()[-1])
        self.assertIs(lines.are_lines_for(told.signs(), GIVENS, paper, told.known()[0], told.known()[-1], rules=RULES), True)
        self.assertIs(least.are_potentials(told, least.potentials(told)), True)
        self.assertEqual(least.least(told, told.first(told.known()[-1])), (1, (A,)))
        self.assertEqual(texts.read_lines(told.signs(), texts.lines_text(told.signs(), paper)), paper)

    def test_asked_of_rounds(self):
        told = Rounds(book_of(GIVENS), RULES)
        told.go_on()
        for turn in range(2):
            for function, handed, answer in OF_ROUNDS:
                self.assertEqual(function(told, *handed), answer, function)

    def test_a_list_that_was_handed_in_may_be_changed(self):
        book = book_of(GIVENS)
        pairs = [((F, A, A), (A,))]
        self.assertIs(book.tried(pairs, (F, A, B), (A,)), True)
        self.assertEqual(pairs, [((F, A, A), (A,))])
        before = state(book)
        pairs[0] = None
        pairs.append(3)
        self.assertEqual(state(book), before)
        self.assertIs(book.alike((F, A, B), (A,)), False)

    def test_nothing_that_is_handed_in_is_changed(self):
        book = book_of(GIVENS)
        told_rounds = Rounds(book, RULES)
        told_rounds.go_on()
        for thing in odd_things():
            before = copy.deepcopy(thing)
            for function, told, by_name, answer in ASKED:
                for place in range(len(told)):
                    self.ask(function, told[:place] + (thing,) + told[place + 1:], by_name)
                for name in by_name:
                    self.ask(function, told, {name: thing})
            for nest, table in ((book, OF_A_BOOK), (told_rounds, OF_ROUNDS)):
                for function, told, answer in table:
                    for place in range(len(told)):
                        self.ask(function, (nest,) + told[:place] + (thing,) + told[place + 1:], {})
                for function, told in ((least.least, ((A,),)), (least.potentials, ()), (least.are_potentials, ((),))):
                    self.ask(function, (nest,) + told, {"costs": thing})
            self.ask(Rounds, (book, thing), {})
            self.ask(Rounds, (book,), {"most": thing})
            self.ask(Desk, (thing,), {})
            self.ask(Desk(SIGNS).say, (thing,), {})
            self.assertEqual(thing, before)
        self.assertTrue(book == book_of(GIVENS))
        self.assertEqual(str(told_rounds), "Rounds still after 1, 4 terms")

    def ask(self, function, told, by_name):
        """Ask, and let nothing but the errors of the document come of it."""
        try:
            function(*told, **by_name)
        except (NestError, AbsentError):
            pass


if __name__ == "__main__":
    unittest.main()
