"""Players: they sit for the keeper, keep nothing but a stand, and think anew at every place."""

from planless.best_books import shares
from planless.books import Book
from planless.checks import is_within
from planless.errors import NoPart
from planless.hands import by_choice
from planless.numbers import row_text
from planless.papers import fixed
from planless.pieces import check_piece, chooses
from planless.readings import Reading
from planless.splits import check_held, split


def chances_of(place, stands):
    """Return the rows of chances by which a keeper who chooses comes to the stands of the parts."""
    return tuple([tuple(shares(numbers)) for numbers in by_choice(place, [stand[0] for stand in stands])])


class Player:
    """A keeper's player that stands at a place, with a stand that it can hold."""

    def __init__(self, piece, reach, limits):
        check_held(piece, reach, limits)
        self.piece = piece
        self.reach = fixed(reach)
        self.limits = fixed(limits)
        self.way = ()
        self.over = piece.KIND == "end"

    def __eq__(self, other):
        if not isinstance(other, Player):
            return False
        return (self.way, self.reach, self.limits, self.piece) == (other.way, other.reach, other.limits, other.piece)

    def __str__(self):
        way = row_text(self.way) if len(self.way) > 0 else "-"
        return f"{way} / {row_text(self.reach)} / {row_text(self.limits)}"

    def chances(self):
        """Return the chances of each hand's choices, where the keeper chooses."""
        if not chooses(self.piece, "keeper"):
            return ()
        return chances_of(self.piece, split(self.piece, self.reach, self.limits))

    def goes(self, number):
        """Go to the part with this number."""
        if not is_within(number, 0, len(self.piece.parts) - 1):
            raise NoPart(number)
        part = self.piece.parts[number]
        self.reach, self.limits = split(self.piece, self.reach, self.limits)[number]
        self.piece = part
        self.way = (*self.way, number)
        self.over = part.KIND == "end"


def player_at(piece, way, reach, limits):
    """Return a player that stands at a piece to which it came by a way, with a stand."""
    player = Player(piece, reach, limits)
    player.way = way
    return player


def way_read(reading, piece):
    """Take a way in the piece from a text; return it, and the place to which it leads."""
    if reading.here() == "-":
        reading.take_word(("-",))
        return (), piece
    way, place = [], piece
    while len(way) == 0 or reading.here() != "/":
        way.append(reading.take_within(0, len(place.parts) - 1))
        place = place.parts[way[-1]]
    return tuple(way), place


def taken_up(piece, text):
    """Return a player that stands in the piece where the text tells."""
    check_piece(piece, "piece")
    reading = Reading(text)
    way, place = way_read(reading, piece)
    reading.take_word(("/",))
    reach = [reading.take_weight() for _ in range(place.keeper_hands)]
    reading.take_word(("/",))
    limits = [reading.take_number() for _ in range(place.rival_hands)]
    reading.check_end()
    return player_at(place, way, reach, limits)


def rows_played(piece, reach, limits):
    """Return the chances of a player at all places where it chooses, if it begins with this stand."""
    stands = split(piece, reach, limits)
    found = [chances_of(piece, stands)] if chooses(piece, "keeper") else []
    for part, stand in zip(piece.parts, stands):
        found.extend(rows_played(part, stand[0], stand[1]))
    return found


def played_book(piece, reach, limits):
    """Return the book that a player plays who begins with this stand."""
    return Book(piece, "keeper", rows_played(piece, reach, limits))
