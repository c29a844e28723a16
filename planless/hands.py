"""How the hands of a side come to the parts of a place, and what the other side's hands earn comes back.

What is earned against the keeper are limits; against the rival it is what the keeper's hands
have to pay, the floors. A side is the one whose book is played.
"""

from planless.numbers import added, greatest, least, multiplied


def hands_below(place):
    """Return for each hand of the side that hides or sees the hands of the part that come of it."""
    counts = place.counts if place.KIND == "hides" else [len(row) for row in place.weights]
    found = []
    at = 0
    for count in counts:
        found.append(list(range(at, at + count)))
        at += count
    return found


def reaches_below(place, side, reach, rows):
    """Return the reaches with which a side comes to the parts; rows are its chances if it chooses here."""
    if place.SIDE != side:
        return [reach for _ in place.parts]
    if place.KIND == "move":
        return [tuple([multiplied(number, row[at]) for number, row in zip(reach, rows)])
                for at in range(len(place.parts))]
    if place.KIND == "shows":
        return [tuple([reach[hand] for hand in lot]) for lot in place.lots]
    shares = place.weights if place.KIND == "sees" else rows
    return [tuple([multiplied(number, share) for number, row in zip(reach, shares) for share in row])]


def earned_at_end(place, side, reach):
    """Return what the hands of the other side earn at an end that a side comes to with this reach."""
    if side == "keeper":
        return [added([multiplied(number, row[hand]) for number, row in zip(reach, place.table)])
                for hand in range(place.rival_hands)]
    return [added([multiplied(number, pay) for number, pay in zip(reach, row)]) for row in place.table]


def by_choice(place, below):
    """Return for each hand of the side that chooses what stands in the parts for each of its choices."""
    if place.KIND == "move":
        return [list(column) for column in zip(*below)]
    return [[below[0][hand] for hand in hands] for hands in hands_below(place)]


def gathered(place, below):
    """Return for each hand of the side that shows what stands for it in the part of its lot."""
    found = {hand: value for lot, row in zip(place.lots, below) for hand, value in zip(lot, row)}
    return [found[hand] for hand in range(len(found))]


def picked(side, values):
    """Return what a hand earns that does as well as it can against this side."""
    return greatest(values) if side == "keeper" else least(values)


def earned_by_all(below):
    """Return what each hand earns in all parts together."""
    return [added(column) for column in zip(*below)]


def earned_above(place, side, below):
    """Return what the hands of the other side earn at a place, by what they earn in its parts."""
    if place.SIDE == side:
        # A place where hands are hidden or seen has one part: the sum is what is earned there.
        return earned_by_all(below)
    match place.KIND:
        case "draw":
            return earned_by_all([[multiplied(weight, number) for number in row]
                                  for weight, row in zip(place.weights, below)])
        case "sees":
            return [added([multiplied(weight, below[0][hand]) for weight, hand in zip(row, hands)])
                    for row, hands in zip(place.weights, hands_below(place))]
        case "shows":
            return gathered(place, below)
    return [picked(side, values) for values in by_choice(place, below)]
