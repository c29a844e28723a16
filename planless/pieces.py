"""The ten kinds of places, holes, and the ways that lead to places."""

from planless.checks import is_list, is_within
from planless.errors import BadPiece, Misfit, NoWay
from planless.papers import fixed
from planless.places import (
    Place, check_counts, check_draw, check_hands, check_lots, check_part, check_parts, check_same_hands, check_shown,
    check_sights, check_table, lots_written, sights_written, written)


class Hole(Place):
    """A place without parts, to be filled with a piece that has as many hands."""

    KIND = "hole"
    SIDE = ""

    def __init__(self, keeper_hands, rival_hands):
        check_hands(keeper_hands, "keeper_hands")
        check_hands(rival_hands, "rival_hands")
        Place.__init__(self, keeper_hands, rival_hands, ())
        self.hole_sizes = ((keeper_hands, rival_hands),)

    def __eq__(self, other):
        return isinstance(other, Hole) and self.hole_sizes == other.hole_sizes

    def __str__(self):
        return f"hole {self.keeper_hands} {self.rival_hands}"


class End(Place):
    """Here the keeper pays the rival what the table tells."""

    KIND = "end"
    SIDE = ""

    def __init__(self, table):
        check_table(table)
        Place.__init__(self, len(table), len(table[0]), ())
        self.table = fixed(table)

    def __eq__(self, other):
        return isinstance(other, End) and self.table == other.table

    def __str__(self):
        numbers = [number for row in self.table for number in row]
        return f"end {written([self.keeper_hands, self.rival_hands, *numbers], ())}"


class KeeperMove(Place):
    """The keeper chooses a part; both see it."""

    KIND = "move"
    SIDE = "keeper"

    def __init__(self, parts):
        check_parts(parts)
        check_same_hands(parts)
        Place.__init__(self, parts[0].keeper_hands, parts[0].rival_hands, fixed(parts))

    def __eq__(self, other):
        return isinstance(other, KeeperMove) and self.parts == other.parts

    def __str__(self):
        return f"keeper-move {written([len(self.parts)], self.parts)}"

    def with_parts(self, parts):
        """Return this place with other parts."""
        return KeeperMove(parts)


class RivalMove(Place):
    """The rival chooses a part; both see it."""

    KIND = "move"
    SIDE = "rival"

    def __init__(self, parts):
        check_parts(parts)
        check_same_hands(parts)
        Place.__init__(self, parts[0].keeper_hands, parts[0].rival_hands, fixed(parts))

    def __eq__(self, other):
        return isinstance(other, RivalMove) and self.parts == other.parts

    def __str__(self):
        return f"rival-move {written([len(self.parts)], self.parts)}"

    def with_parts(self, parts):
        """Return this place with other parts."""
        return RivalMove(parts)


class Draw(Place):
    """A part is drawn by its weight; both see it."""

    KIND = "draw"
    SIDE = ""

    def __init__(self, weights, parts):
        check_draw(weights)
        check_parts(parts)
        if len(weights) != len(parts):
            raise Misfit("parts")
        check_same_hands(parts)
        Place.__init__(self, parts[0].keeper_hands, parts[0].rival_hands, fixed(parts))
        self.weights = fixed(weights)

    def __eq__(self, other):
        return isinstance(other, Draw) and (self.weights, self.parts) == (other.weights, other.parts)

    def __str__(self):
        return f"draw {written([len(self.parts), *self.weights], self.parts)}"

    def with_parts(self, parts):
        """Return this place with other parts."""
        return Draw(self.weights, parts)


class KeeperHides(Place):
    """The keeper chooses a number below its hand's count; the rival does not see it."""

    KIND = "hides"
    SIDE = "keeper"

    def __init__(self, counts, part):
        check_counts(counts)
        check_part(part)
        if part.keeper_hands != sum(counts):
            raise Misfit("part")
        Place.__init__(self, len(counts), part.rival_hands, (part,))
        self.counts = fixed(counts)

    def __eq__(self, other):
        return isinstance(other, KeeperHides) and (self.counts, self.parts) == (other.counts, other.parts)

    def __str__(self):
        return f"keeper-hides {written([len(self.counts), *self.counts], self.parts)}"

    def with_parts(self, parts):
        """Return this place with another part."""
        return KeeperHides(self.counts, parts[0])


class RivalHides(Place):
    """The rival chooses a number below its hand's count; the keeper does not see it."""

    KIND = "hides"
    SIDE = "rival"

    def __init__(self, counts, part):
        check_counts(counts)
        check_part(part)
        if part.rival_hands != sum(counts):
            raise Misfit("part")
        Place.__init__(self, part.keeper_hands, len(counts), (part,))
        self.counts = fixed(counts)

    def __eq__(self, other):
        return isinstance(other, RivalHides) and (self.counts, self.parts) == (other.counts, other.parts)

    def __str__(self):
        return f"rival-hides {written([len(self.counts), *self.counts], self.parts)}"

    def with_parts(self, parts):
        """Return this place with another part."""
        return RivalHides(self.counts, parts[0])


class KeeperSees(Place):
    """A number is drawn by the weights of the keeper's hand; the keeper alone sees it."""

    KIND = "sees"
    SIDE = "keeper"

    def __init__(self, weights, part):
        check_sights(weights)
        check_part(part)
        if part.keeper_hands != sum([len(row) for row in weights]):
            raise Misfit("part")
        Place.__init__(self, len(weights), part.rival_hands, (part,))
        self.weights = fixed(weights)

    def __eq__(self, other):
        return isinstance(other, KeeperSees) and (self.weights, self.parts) == (other.weights, other.parts)

    def __str__(self):
        return f"keeper-sees {sights_written(self)}"

    def with_parts(self, parts):
        """Return this place with another part."""
        return KeeperSees(self.weights, parts[0])


class RivalSees(Place):
    """A number is drawn by the weights of the rival's hand; the rival alone sees it."""

    KIND = "sees"
    SIDE = "rival"

    def __init__(self, weights, part):
        check_sights(weights)
        check_part(part)
        if part.rival_hands != sum([len(row) for row in weights]):
            raise Misfit("part")
        Place.__init__(self, part.keeper_hands, len(weights), (part,))
        self.weights = fixed(weights)

    def __eq__(self, other):
        return isinstance(other, RivalSees) and (self.weights, self.parts) == (other.weights, other.parts)

    def __str__(self):
        return f"rival-sees {sights_written(self)}"

    def with_parts(self, parts):
        """Return this place with another part."""
        return RivalSees(self.weights, parts[0])


class KeeperShows(Place):
    """The rival sees in which lot the keeper's hand is, and the part of this lot is entered."""

    KIND = "shows"
    SIDE = "keeper"

    def __init__(self, lots, parts):
        check_lots(lots)
        check_parts(parts)
        check_shown([part.keeper_hands for part in parts], [part.rival_hands for part in parts], lots)
        Place.__init__(self, sum([len(lot) for lot in lots]), parts[0].rival_hands, fixed(parts))
        self.lots = fixed(lots)

    def __eq__(self, other):
        return isinstance(other, KeeperShows) and (self.lots, self.parts) == (other.lots, other.parts)

    def __str__(self):
        return f"keeper-shows {lots_written(self)}"

    def with_parts(self, parts):
        """Return this place with other parts."""
        return KeeperShows(self.lots, parts)


class RivalShows(Place):
    """The keeper sees in which lot the rival's hand is, and the part of this lot is entered."""

    KIND = "shows"
    SIDE = "rival"

    def __init__(self, lots, parts):
        check_lots(lots)
        check_parts(parts)
        check_shown([part.rival_hands for part in parts], [part.keeper_hands for part in parts], lots)
        Place.__init__(self, parts[0].keeper_hands, sum([len(lot) for lot in lots]), fixed(parts))
        self.lots = fixed(lots)

    def __eq__(self, other):
        return isinstance(other, RivalShows) and (self.lots, self.parts) == (other.lots, other.parts)

    def __str__(self):
        return f"rival-shows {lots_written(self)}"

    def with_parts(self, parts):
        """Return this place with other parts."""
        return RivalShows(self.lots, parts)


def is_piece(value):
    """Tell whether the value is a place with no hole in it."""
    return isinstance(value, Place) and len(value.hole_sizes) == 0


def check_piece(value, name):
    """Raise the error for what is no piece."""
    if not is_piece(value):
        raise BadPiece(name)


def is_frame(value):
    """Tell whether the value is a place with holes in it, all for as many hands."""
    return isinstance(value, Place) and len(value.hole_sizes) == 1


def check_place(place):
    """Raise the error for what is no place, with holes or without."""
    if not isinstance(place, Place):
        raise BadPiece("place")


def ways_in(place):
    """Return the ways to a place and to all places in it."""
    found = [()]
    for at, part in enumerate(place.parts):
        found.extend([(at, *way) for way in ways_in(part)])
    return found


def part_ways(place, way):
    """Return the ways to the parts of a place to which a way leads."""
    return [(*way, at) for at in range(len(place.parts))]


def ways(place):
    """Return the ways to a place and to all places in it, each place ahead of its parts."""
    check_place(place)
    return tuple(ways_in(place))


def place_at(place, way):
    """Return the place at the end of a way."""
    check_place(place)
    if not is_list(way):
        raise NoWay(way)
    found = place
    for at in way:
        if not is_within(at, 0, len(found.parts) - 1):
            raise NoWay(way)
        found = found.parts[at]
    return found


def check_side(side):
    """Raise the error for what is no side."""
    if side not in ("keeper", "rival"):
        raise Misfit("side")


def chooses(place, side):
    """Tell whether this side chooses at the place."""
    return place.SIDE == side and place.KIND in ("move", "hides")


def choosing_ways(place, side):
    """Return the ways to the places at which this side chooses."""
    check_place(place)
    check_side(side)
    return tuple([way for way in ways_in(place) if chooses(place_at(place, way), side)])
