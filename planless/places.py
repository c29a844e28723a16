"""What all kinds of places have in common."""

from planless.checks import is_list, is_lot, is_row, is_weights, is_within
from planless.errors import BadNumber, BadPiece, Misfit, TooMany
from planless.numbers import row_text

MOST_HANDS = 8
MOST_PARTS = 6
MOST_COUNT = 4
MOST_PLACES = 120
MOST_LEVELS = 10


def check_size(many, levels):
    """Raise the error of a place with too many places in it, or too many levels."""
    if many > MOST_PLACES:
        raise TooMany("places", MOST_PLACES)
    if levels > MOST_LEVELS:
        raise TooMany("levels", MOST_LEVELS)


class Place:
    """A place with hands of both sides, and parts beneath it."""

    def __init__(self, keeper_hands, rival_hands, parts):
        many = 1 + sum([part.many for part in parts])
        levels = 1 + max([part.levels for part in parts], default=0)
        check_size(many, levels)
        self.keeper_hands = keeper_hands
        self.rival_hands = rival_hands
        self.parts = parts
        self.many = many
        self.levels = levels
        self.hole_sizes = tuple(sorted({size for part in parts for size in part.hole_sizes}))


def is_list_within(value, most):
    """Tell whether the value is a list of one item or more, at most so many."""
    return is_list(value) and 1 <= len(value) <= most


def check_hands(value, name):
    """Raise the error for what is no number of hands."""
    if not is_within(value, 1, MOST_HANDS):
        raise BadNumber(name)


def check_table(table):
    """Raise the error for what is no table of an end."""
    if not is_list_within(table, MOST_HANDS) or not is_list_within(table[0], MOST_HANDS):
        raise BadNumber("table")
    if not all([is_row(row, len(table[0])) for row in table]):
        raise BadNumber("table")


def check_draw(weights):
    """Raise the error for what are no weights of a draw."""
    if not is_list_within(weights, MOST_PARTS) or not is_weights(weights, len(weights)):
        raise BadNumber("weights")


def check_sights(weights):
    """Raise the error for what are no weights of a place where a side sees."""
    if not is_list_within(weights, MOST_HANDS):
        raise BadNumber("weights")
    if not all([is_list_within(row, MOST_HANDS) and is_weights(row, len(row)) for row in weights]):
        raise BadNumber("weights")


def check_counts(counts):
    """Raise the error for what are no counts of choices."""
    if not is_list_within(counts, MOST_HANDS):
        raise BadNumber("counts")
    if not all([is_within(count, 1, MOST_COUNT) for count in counts]):
        raise BadNumber("counts")


def check_lots(lots):
    """Raise the error for what are no lots that part hands from 0 on."""
    if not is_list_within(lots, MOST_PARTS) or not all([is_lot(lot) and len(lot) > 0 for lot in lots]):
        raise BadNumber("lots")
    hands = sorted([hand for lot in lots for hand in lot])
    if hands != list(range(len(hands))) or len(hands) > MOST_HANDS:
        raise BadNumber("lots")
    if not is_lot([lot[0] for lot in lots]):
        raise BadNumber("lots")


def check_part(part):
    """Raise the error for what is no place."""
    if not isinstance(part, Place):
        raise BadPiece("part")


def check_parts(parts):
    """Raise the error for what is no list of places."""
    if not is_list_within(parts, MOST_PARTS) or not all([isinstance(part, Place) for part in parts]):
        raise BadPiece("parts")


def check_same_hands(parts):
    """Raise the error of parts that have not as many hands on both sides."""
    sizes = [(part.keeper_hands, part.rival_hands) for part in parts]
    if sizes != [sizes[0] for _ in parts]:
        raise Misfit("parts")


def check_shown(mine, others, lots):
    """Raise the error of parts that do not fit lots.

    mine are the hands that the side which shows has in each part, others those of the other side.
    """
    if mine != [len(lot) for lot in lots] or others != [others[0] for _ in others]:
        raise Misfit("parts")


def written(numbers, parts):
    """Return the text of some numbers, and of parts behind them."""
    return " ".join([row_text(numbers), *[str(part) for part in parts]])


def sights_written(place):
    """Return the text of the weights and of the part of a place where a side sees."""
    numbers = [number for row in place.weights for number in (len(row), *row)]
    return written([len(place.weights), *numbers], place.parts)


def lots_written(place):
    """Return the text of the lots and of the parts of a place where a side shows."""
    many = sum([len(lot) for lot in place.lots])
    numbers = [at for hand in range(many) for at, lot in enumerate(place.lots) if hand in lot]
    return written([many, *numbers], place.parts)
