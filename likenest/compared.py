"""Whether two books say the same: point 70 of the document."""

from likenest.errors import NoSigns
from likenest.models import answer


def compared(one, other):
    """("same", ones, others) with lines for each given, or ("not", side, number, model) of the first that fails."""
    if one.signs() != other.signs():
        raise NoSigns()
    shown = []
    for side, by, asked in ((0, one, other), (1, other, one)):
        papers = []
        for number, (left, right) in enumerate(asked.givens()):
            word, paper = answer(by, left, right)
            if word == "unlike":
                return ("not", side, number, paper)
            papers.append(paper)
        shown.append(tuple(papers))
    return ("same", shown[0], shown[1])
