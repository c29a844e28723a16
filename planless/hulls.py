"""What rows of integers make: which of the rows are needed, and the walls, found row by row.

What is made is told by faces. A face has corners, rows that it goes through, one fewer than there
are numbers in a row, and a wall, whose product with each corner is 0. Two faces that have all
corners but one in common meet at a ridge. A new row that some faces bar, as their walls have a
product below 0 with it, takes their place with new faces, from each ridge where they meet others.
Several faces may have one wall.
"""

from math import gcd


def lowest(row):
    """Return a row of integers, not all 0, divided by the greatest integer that divides all of them."""
    common = 0
    for number in row:
        common = gcd(common, number)
        if common == 1:
            return tuple(row)
    return tuple([number // common for number in row])


def unit_row(wide, index):
    """Return the row with 1 at an index, and 0 else."""
    return tuple([1 if at == index else 0 for at in range(wide)])


def product_of(row, other):
    """Return the product of two rows of integers."""
    return sum([here * there for here, there in zip(row, other)])


def levelled(row, product, other, other_product):
    """Return a row, less another one, each as often as the other's product with a third row tells.

    So the third row has the product 0 with it.
    """
    return lowest([here * other_product - there * product for here, there in zip(row, other)])


def ridges_of(corners):
    """Return the ridges of a face: its corners without one."""
    return [corners[:at] + corners[at + 1:] for at in range(len(corners))]


class Hull:
    """The faces of what the rows make that were taken in."""

    def __init__(self, wide):
        # A line has the product 0 with all rows so far; only when no line is left there are faces.
        self.lines = [unit_row(wide, at) for at in range(wide)]
        self.walls = []
        self.corners = []
        self.faces = {}
        self.ridges = {}
        self.last_face = 0

    def begin(self, row):
        """Take in a row if some line has another product with it than 0; return whether one has."""
        products = [product_of(row, line) for line in self.lines]
        leaving = [at for at, product in enumerate(products) if product != 0]
        if len(leaving) == 0:
            return False
        chosen = leaving[0]
        sign = 1 if products[chosen] > 0 else -1
        line, most = tuple([sign * number for number in self.lines[chosen]]), sign * products[chosen]
        self.lines = [levelled(other, product, line, most)
                      for at, (other, product) in enumerate(zip(self.lines, products)) if at != chosen]
        self.walls = [levelled(wall, product_of(row, wall), line, most) for wall in self.walls] + [line]
        self.corners.append(row)
        return True

    def begin_faces(self):
        """Make the first faces, when there are as many corners as numbers in a row."""
        for wall, corners in zip(self.walls, ridges_of(tuple(range(len(self.corners))))):
            self.add_face(corners, wall)

    def add_face(self, corners, wall):
        """Add a face."""
        self.last_face += 1
        self.faces[self.last_face] = corners, wall
        for ridge in ridges_of(corners):
            self.ridges.setdefault(ridge, []).append(self.last_face)

    def drop_face(self, face):
        """Drop a face."""
        corners, _ = self.faces[face]
        for ridge in ridges_of(corners):
            self.ridges[ridge].remove(face)
            if len(self.ridges[ridge]) == 0:
                del self.ridges[ridge]
        del self.faces[face]

    def take(self, row):
        """Take in a row; return whether what is made then holds no straight line."""
        products = {face: product_of(row, wall) for face, (_, wall) in self.faces.items()}
        barring = [face for face, product in products.items() if product < 0]
        if len(barring) == 0:
            return True
        if max(list(products.values())) <= 0:
            return False
        found = self.faces_through(barring, products)
        for face in barring:
            self.drop_face(face)
        for corners, wall in found:
            self.add_face(corners, wall)
        self.corners.append(row)
        return True

    def faces_through(self, barring, products):
        """Return the corners and the walls of the faces that go through the next corner.

        These are the faces that bar it, and the products of all faces' walls with it.
        """
        found = []
        for face in barring:
            corners, wall = self.faces[face]
            for ridge in ridges_of(corners):
                for other in self.ridges[ridge]:
                    if products[other] >= 0:
                        _, beyond = self.faces[other]
                        through = levelled(wall, products[face], beyond, products[other])
                        found.append(((*ridge, len(self.corners)), through))
        return found

    def needed(self, walls):
        """Return the corners that no others make; these are all walls."""
        bits = {wall: 1 << at for at, wall in enumerate(walls)}
        met = {}
        for corners, wall in self.faces.values():
            for corner in corners:
                met[corner] = met.get(corner, 0) | bits[wall]
        all_met = list(met.values())
        # What makes a corner is on all walls that the corner is on.
        return [self.corners[corner] for corner, here in met.items()
                if len([there for there in all_met if there & here == here]) == 1]


def hulled(rows):
    """Return the rays and the walls of what rows make, both ascending.

    It is None if they hold a straight line, or have no inner points. No integer above 1 divides
    all of a row, and no row is there twice.
    """
    hull = Hull(len(rows[0]))
    rest = [row for row in rows if not hull.begin(row)]
    if len(hull.lines) > 0:
        return None
    hull.begin_faces()
    for row in rest:
        if not hull.take(row):
            return None
    walls = sorted({wall for _, wall in hull.faces.values()})
    return tuple(sorted(hull.needed(walls))), tuple(walls)
