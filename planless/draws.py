"""The sums of what two cones have for the same reach, or for the same rival reach."""

from planless.hulls import levelled, product_of


def walls_met(row, walls):
    """Return the walls that a row is on, as bits of an integer."""
    return sum([1 << at for at, wall in enumerate(walls) if product_of(row, wall) == 0])


def many_met(met):
    """Return how many walls these are."""
    return f"{met:b}".count("1")


def are_next(met, rows):
    """Tell whether just two rows are on all these walls."""
    many = 0
    for _, here in rows:
        if here & met == met:
            many += 1
            if many > 2:
                return False
    return True


def cut_at(rows, at, fewest):
    """Return the rays of all that is made by rows and has 0 at an index.

    Beside each row stand the walls that it is on. Two rows that have no others between them are
    on so many walls at least.
    """
    above = [pair for pair in rows if pair[0][at] > 0]
    below = [pair for pair in rows if pair[0][at] < 0]
    found = [pair for pair in rows if pair[0][at] == 0]
    for row, met in above:
        for other, other_met in below:
            both = met & other_met
            # Two rows that have others between them come to no ray.
            if many_met(both) >= fewest and are_next(both, rows):
                found.append((levelled(other, other[at], row, row[at]), both))
    return found


def fewest_pairs(rows, left):
    """Return of some indexes the first one where the fewest pairs of rows have numbers of unlike signs."""
    found = []
    for at in left:
        numbers = [row[at] for row, _ in rows]
        above, below = [number for number in numbers if number > 0], [number for number in numbers if number < 0]
        found.append((len(above) * len(below), at))
    return min(found)[1]


def matched_sums(one, other, wide):
    """Return rows that make all sums of rows of two cones that have the same first numbers, so many.

    The first numbers stand in a sum as in both rows, the others are added up. Of each cone the
    rows that make it are told, and its walls.
    """
    rows, walls = one
    rows_of_more, walls_of_more = other
    own, more = (1 << len(walls)) - 1, (1 << len(walls_of_more)) - 1
    # Ahead of each sum stands by how much the first numbers are not the same.
    found = [((*row[:wide], *row), walls_met(row, walls) | more << len(walls)) for row in rows]
    for row in rows_of_more:
        apart, none = [-number for number in row[:wide]], [0 for _ in range(wide)]
        found.append(((*apart, *none, *row[wide:]), own | walls_met(row, walls_of_more) << len(walls)))
    left, fewest = list(range(wide)), 2 * len(rows[0]) - 2
    while len(left) > 0:
        at = fewest_pairs(found, left)
        found = cut_at(found, at, fewest)
        left.remove(at)
        fewest -= 1
    return [row[wide:] for row, _ in found]
