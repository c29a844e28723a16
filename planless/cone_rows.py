"""The rays and the walls of the cones of pieces, found from those of their parts.

A cone is the pair of its rays and its walls, both ascending. A row has a number for each hand of
the keeper, and then one for each hand of the rival.
"""

from planless.draws import matched_sums
from planless.hands import hands_below
from planless.hulls import hulled, lowest, unit_row
from planless.numbers import matched_sum, multiplied, on_one_line

RAYS = 0
WALLS = 1


def in_integers(row):
    """Return a row of numbers, not all 0, times what makes integers of it that none above 1 divides."""
    return lowest(on_one_line(row)[0])


def cone_by(kind, rows):
    """Return the cone that rows tell, all rays or all walls; more may be told than are needed, and rows of 0."""
    told = sorted({in_integers(row) for row in rows if any([number != 0 for number in row])})
    needed, others = hulled(told)
    return (needed, others) if kind == RAYS else (others, needed)


def end_cone(table):
    """Return the cone of an end."""
    mine, theirs = len(table), len(table[0])
    columns = [[multiplied(-1, row[hand]) for row in table] for hand in range(theirs)]
    rays = [in_integers([*unit_row(mine, hand), *row]) for hand, row in enumerate(table)]
    walls = [in_integers([*column, *unit_row(theirs, hand)]) for hand, column in enumerate(columns)]
    units = [unit_row(mine + theirs, at) for at in range(mine + theirs)]
    return tuple(sorted([*rays, *units[mine:]])), tuple(sorted([*walls, *units[:mine]]))


def hands_above(place, at, numbers):
    """Return what the hands of the side whose place this is have of the numbers of its hands in a part."""
    match place.KIND:
        case "shows":
            found = dict(zip(place.lots[at], numbers))
            return [found.get(hand, 0) for hand in range(sum([len(lot) for lot in place.lots]))]
        case "hides":
            return [sum([numbers[hand] for hand in hands]) for hands in hands_below(place)]
        case "sees":
            return [matched_sum(row, [numbers[hand] for hand in hands])
                    for row, hands in zip(place.weights, hands_below(place))]
    return list(numbers)


def row_above(place, at, row):
    """Return the row of a place that comes of a row of a part."""
    mine = place.parts[at].keeper_hands
    if place.SIDE == "keeper":
        return (*hands_above(place, at, row[:mine]), *row[mine:])
    return (*row[:mine], *hands_above(place, at, row[mine:]))


def own_units(place):
    """Return for each hand of the side whose place this is the row with 1 there, and 0 else."""
    mine, theirs = place.keeper_hands, place.rival_hands
    units = [unit_row(mine + theirs, at) for at in range(mine + theirs)]
    return units[:mine] if place.SIDE == "keeper" else units[mine:]


def sided_cone(place, cones):
    """Return the cone of a place that is a side's, from those of its parts."""
    # A stand of a keeper's place is made of stands of its parts, one of a rival's place is one in each part;
    # with what is seen it is the other way round.
    kind = RAYS if (place.SIDE == "keeper") != (place.KIND == "sees") else WALLS
    rows = [row_above(place, at, row) for at, cone in enumerate(cones) for row in cone[kind]]
    if tuple(rows) == cones[0][kind]:
        return cones[0]
    return cone_by(kind, [*rows, *own_units(place)] if place.KIND == "sees" else rows)


def weighted_cone(cone, weight, mine):
    """Return the cone in which all limits are a weight above 0 times what they were."""
    rays = [[*row[:mine], *[multiplied(weight, number) for number in row[mine:]]] for row in cone[RAYS]]
    walls = [[*[multiplied(weight, number) for number in row[:mine]], *row[mine:]] for row in cone[WALLS]]
    return tuple(sorted([in_integers(row) for row in rays])), tuple(sorted([in_integers(row) for row in walls]))


def turned(rows, many):
    """Return rows with so many of their first numbers behind the others."""
    return [(*row[many:], *row[:many]) for row in rows]


def summed_cone(one, other, mine):
    """Return the cone in which the limits are the sums of those of two cones, so many reaches being the same."""
    theirs = len(one[RAYS][0]) - mine
    if len(one[RAYS]) * len(other[RAYS]) <= len(one[WALLS]) * len(other[WALLS]):
        return cone_by(RAYS, matched_sums(one, other, mine))
    # For a rival reach both pieces have floors, which add up likewise.
    one, other = [(turned(cone[WALLS], mine), turned(cone[RAYS], mine)) for cone in (one, other)]
    return cone_by(WALLS, turned(matched_sums(one, other, theirs), theirs))


def drawn_cone(place, cones):
    """Return the cone of a Draw, from those of its parts."""
    mine = place.keeper_hands
    found = [weighted_cone(cone, weight, mine) for weight, cone in zip(place.weights, cones) if weight != 0]
    if len(found) == 0:
        return end_cone([[0 for _ in range(place.rival_hands)] for _ in range(mine)])
    total = found[0]
    for cone in found[1:]:
        total = summed_cone(total, cone, mine)
    return total


def cone_above(place, cones):
    """Return the cone of a place, from those of its parts."""
    if place.KIND == "end":
        return end_cone(place.table)
    return drawn_cone(place, cones) if place.KIND == "draw" else sided_cone(place, cones)


def cone_at(place):
    """Return the cone of a piece."""
    return cone_above(place, [cone_at(part) for part in place.parts])
