"""A desk that is told lines and keeps a book: point 111 of the document."""

from likenest.books import Book
from likenest.cores import core
from likenest.errors import NoLine
from likenest.least import least
from likenest.texts import number_of, read_term, written_term
from likenest.torn import torn


def listed(words, between):
    """Words with a text between each two, `none` where there are none."""
    return between.join(words) if words else "none"


def do_know(book, term):
    """Make a term known."""
    book.know(term)
    return "ok"


def do_tell(book, one, other):
    """Tell two terms to be alike."""
    number = book.tell(one, other)
    return f"ok {number}"


def do_part(book, one, other):
    """Tell two terms to be unlike."""
    number = book.part(one, other)
    return f"ok {number}"


def do_push(book):
    """Push a level."""
    book.push()
    return "ok"


def do_back(book, levels):
    """Take levels back."""
    book.back(levels)
    return "ok"


def ask_alike(book, one, other):
    """Whether two terms are alike."""
    return "yes" if book.alike(one, other) else "no"


def ask_why(book, one, other):
    """The numbers of the core of two terms."""
    if not book.alike(one, other):
        return "no"
    numbers, lines, models = core(book, one, other)
    return listed([str(number) for number in numbers], " ")


def ask_first(book, term):
    """The first of a term's class."""
    return written_term(book.signs(), book.first(term))


def ask_classes(book):
    """All classes."""
    signs = book.signs()
    rows = [" ".join([written_term(signs, term) for term in terms]) for terms in book.classes()]
    return listed(rows, " / ")


def ask_least(book, term):
    """The least cost of a term's class, and the first term that costs so."""
    cost, found = least(book, term)
    return f"{cost} {written_term(book.signs(), found)}"


def ask_torn(book):
    """The number of the first unlike whose two are alike."""
    paper = torn(book)
    return "no" if paper is None else str(paper[0])


def ask_book(book):
    """The book's text."""
    return str(book)


ALONE = {"push": do_push, "classes": ask_classes, "torn": ask_torn, "book": ask_book}
OF_ONE = {"know": do_know, "first": ask_first, "least": ask_least}
OF_TWO = {"tell": do_tell, "part": do_part, "alike": ask_alike, "why": ask_why}


def words_of(line):
    """The words of a line with one blank between each two; refused is what is none, of anything."""
    if not isinstance(line, str):
        raise NoLine()
    words = line.split(" ")
    if "" in words:
        raise NoLine()
    return words


class Desk:
    """A book that is told lines."""

    def __init__(self, signs):
        self.book = Book(signs)

    def say(self, line):
        """What the desk says to a line, of anything."""
        words = words_of(line)
        if len(words) == 1 and words[0] in ALONE:
            say_alone = ALONE[words[0]]
            return say_alone(self.book)
        if len(words) == 2 and words[0] in OF_ONE:
            say_one = OF_ONE[words[0]]
            return say_one(self.book, self.read(words[1]))
        if len(words) == 4 and words[0] in OF_TWO and words[2] == "=":
            say_two = OF_TWO[words[0]]
            return say_two(self.book, self.read(words[1]), self.read(words[3]))
        if len(words) == 2 and words[0] == "back" and number_of(words[1]) is not None:
            return do_back(self.book, number_of(words[1]))
        raise NoLine()

    def read(self, word):
        """The term of a word."""
        return read_term(self.book.signs(), word)
