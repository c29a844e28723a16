"""What the rival's hands can earn at a piece, as sums of what both sides leave open.

The unknowns are from 0 on, one for each choice of a hand of either side that has several: of a
keeper's hand it is the reach that goes this way, of a rival's hand it is by how much the choice
brings less than the limit. All choices of a keeper's hand make up its reach, so choice 0 is told
by a row; the limit of a rival's hand is told by one choice, so all others are told by rows.
"""

from planless.hands import by_choice, gathered, hands_below
from planless.numbers import precedes
from planless.sums import ONE, sum_by


def best_at(sums):
    """Return the index of the first sum that is greatest where all unknowns are 0."""
    best = 0
    for at, terms in enumerate(sums):
        if precedes(sums[best].get(ONE, 0), terms.get(ONE, 0)):
            best = at
    return best


def wanted_below(place, wanted):
    """Return for each part of a rival's place which of the rival's hands there are wanted."""
    if place.KIND == "move":
        return [wanted for _ in place.parts]
    if place.KIND == "shows":
        return [[wanted[hand] for hand in lot] for lot in place.lots]
    if place.KIND == "hides":
        return [[is_wanted for is_wanted, count in zip(wanted, place.counts) for _ in range(count)]]
    return [[is_wanted and weight != 0 for is_wanted, row in zip(wanted, place.weights) for weight in row]]


class Conditions:
    """The rows by which unknowns are told, and for each unknown its side, way, hand and choice.

    A reach is a list of sums, one for each of the keeper's hands, likewise limits of the rival's
    hands. Only hands that are wanted have limits; all others, and what nobody comes to, have 0.
    """

    def __init__(self):
        self.rows = []
        self.names = {}

    def add_unknowns(self, side, way, hand, many):
        """Return new unknowns, one for each choice of a hand."""
        found = []
        for choice in range(many):
            unknown = len(self.names) + 1
            self.names[unknown] = (side, way, hand, choice)
            found.append(unknown)
        return found

    def part_reach(self, way, hand, reach, many):
        """Return the reaches of all choices of a keeper's hand, which together are its reach."""
        if many == 1 or len(reach) == 0:
            return [reach for _ in range(many)]
        unknowns = self.add_unknowns("keeper", way, hand, many)
        others = [{unknown: 1} for unknown in unknowns[1:]]
        first = sum_by([(reach, 1), *[(terms, -1) for terms in others]])
        self.rows.append((unknowns[0], first))
        return [first, *others]

    def limit_over(self, way, hand, sums):
        """Return the least limit of a rival's hand that is not below what any of its choices brings."""
        if len(sums) == 1:
            return sums[0]
        unknowns = self.add_unknowns("rival", way, hand, len(sums))
        best = best_at(sums)
        limit = sum_by([(sums[best], 1), ({unknowns[best]: 1}, 1)])
        for at, terms in enumerate(sums):
            if at != best:
                self.rows.append((unknowns[at], sum_by([(limit, 1), (terms, -1)])))
        return limit

    def reaches_below(self, place, way, reach):
        """Return the reaches with which the keeper comes to the parts of its place."""
        match place.KIND:
            case "move":
                rows = [self.part_reach(way, hand, terms, len(place.parts)) for hand, terms in enumerate(reach)]
                return [list(column) for column in zip(*rows)]
            case "hides":
                rows = [self.part_reach(way, hand, terms, place.counts[hand]) for hand, terms in enumerate(reach)]
                return [[terms for row in rows for terms in row]]
            case "sees":
                return [[sum_by([(terms, weight)]) for terms, row in zip(reach, place.weights) for weight in row]]
        return [[reach[hand] for hand in lot] for lot in place.lots]

    def limits_at(self, place, way, reach, wanted):
        """Return the limits at a place to which a way leads."""
        if not any([len(terms) > 0 for terms in reach]) or not any(wanted):
            return [{} for _ in wanted]
        if place.KIND == "end":
            return [sum_by([(terms, row[hand]) for terms, row in zip(reach, place.table)]) if is_wanted else {}
                    for hand, is_wanted in enumerate(wanted)]
        if place.KIND == "draw":
            return self.limits_drawn(place, way, reach, wanted)
        if place.SIDE == "rival":
            return self.limits_of_rival(place, way, reach, wanted)
        below = [self.limits_at(part, (*way, at), part_reach, wanted)
                 for at, (part, part_reach) in enumerate(zip(place.parts, self.reaches_below(place, way, reach)))]
        return [sum_by([(terms, 1) for terms in column]) for column in zip(*below)]

    def limits_drawn(self, place, way, reach, wanted):
        """Return the limits at a Draw."""
        below = [(self.limits_at(part, (*way, at), reach, wanted), weight)
                 for at, (part, weight) in enumerate(zip(place.parts, place.weights)) if weight != 0]
        return [sum_by([(row[hand], weight) for row, weight in below]) for hand in range(len(wanted))]

    def limits_of_rival(self, place, way, reach, wanted):
        """Return the limits at a place of the rival."""
        below = [self.limits_at(part, (*way, at), reach, part_wanted)
                 for at, (part, part_wanted) in enumerate(zip(place.parts, wanted_below(place, wanted)))]
        match place.KIND:
            case "sees":
                return [sum_by([(below[0][hand], weight) for weight, hand in zip(row, hands)])
                        for row, hands in zip(place.weights, hands_below(place))]
            case "shows":
                return gathered(place, below)
        return [self.limit_over(way, hand, sums) if wanted[hand] else {}
                for hand, sums in enumerate(by_choice(place, below))]
