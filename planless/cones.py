"""Which stands of a piece can be held."""

from planless.arguments import check_stand
from planless.best_books import holding
from planless.papers import Denial, Paper


class Held(Paper):
    """The keeper holds the stand by this book."""

    def __init__(self, book):
        Paper.__init__(self, "held", book)
        self.book = self.parts[0]


class Broken(Denial):
    """No book holds the stand, as this rival reach and this book of the rival show."""

    def __init__(self, rival_reach, book):
        Denial.__init__(self, "broken", rival_reach, book)
        self.rival_reach, self.book = self.parts


def holds(piece, reach, limits):
    """Return what shows that the keeper holds a stand, or that it cannot."""
    check_stand(piece, reach, limits)
    is_held, shown = holding(piece, reach, limits)
    if is_held:
        return Held(shown)
    return Broken(shown[0], shown[1])
