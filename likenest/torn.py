"""Books in which an unlike that stands is alike: point 50 of the document."""

from likenest.closure import book_closure
from likenest.lines import closure_lines


def first_torn(closure, unlikes):
    """The least number of an unlike whose two are alike, None where there is none."""
    for number, (one, other) in enumerate(unlikes):
        if closure.are_alike(one, other):
            return number
    return None


def torn(book):
    """The least number of an unlike whose two are alike, with lines for them; None where the book isn't torn."""
    closure = book_closure(book, ())
    number = first_torn(closure, book.unlikes())
    if number is None:
        return None
    one, other = book.unlikes()[number]
    return (number, closure_lines(closure, one, other))


def pops(book):
    """How many levels must be taken back, at the least, for a book not to be torn; None where it is with none left."""
    # A twin takes the deeds, so that the book stays as it was.
    trial = book.twin()
    taken = 0
    while first_torn(book_closure(trial, ()), trial.unlikes()) is not None:
        if trial.levels() == 0:
            return None
        trial.back()
        taken += 1
    return taken
