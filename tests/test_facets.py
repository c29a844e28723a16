import random
import unittest

from determinants import lowest, product, rank, rays_by_determinants, walls_by_determinants
from examples import check_raises
from fractions_of import listed

from planless.errors import BadNumber, Misfit
from planless.facets import least_of, walls_of

SQUARE = [(0, 0, 1), (1, 0, 1), (0, 1, 1), (1, 1, 1), (1, 1, 2)]


def any_vectors(draw, many, wide, most, least=None):
    """Return so many vectors."""
    found = []
    while len(found) < many:
        row = [draw.randint(-most if least is None else least, most) for _ in range(wide)]
        if any(row):
            found.append(row)
    return found


def flat_vectors(draw, many, wide, most):
    """Return vectors that all lie in a plane, as one number is the sum of the others."""
    found = any_vectors(draw, many, wide - 1, most, 0)
    return [[*row, sum(row)] for row in found]


class FacetsTest(unittest.TestCase):
    def check_both(self, vectors):
        """Check both lists against determinants; return whether there are such lists."""
        walls, rays = walls_by_determinants(vectors), rays_by_determinants(vectors)
        if walls is None:
            check_raises(self, Misfit("vectors"), walls_of, vectors)
            check_raises(self, Misfit("vectors"), least_of, vectors)
            return False
        self.assertEqual(repr(walls_of(vectors)), repr(walls))
        self.assertEqual(repr(least_of(vectors)), repr(rays))
        # The walls of the walls are the rays.
        if len(walls) <= 40:
            self.assertEqual(walls_of(walls), rays)
            self.assertEqual(least_of(walls), walls)
        return True

    def test_against_determinants(self):
        draw = random.Random(201)
        found = []
        for at in range(700):
            wide = 2 + at % 4
            many = draw.randint(1, 11 - wide)
            least = draw.choice((None, -1, 0, 0))
            found.append(self.check_both(any_vectors(draw, many, wide, draw.choice((1, 2, 9, 99)), least)))
        self.assertGreater(min(found.count(True), found.count(False)), 150)

    def test_many_integers(self):
        draw = random.Random(202)
        for wide, many in ((6, 9), (6, 10), (7, 9), (8, 9), (8, 10)):
            for most in (1, 3, 50):
                self.check_both([[*row, sum(row) + 1] for row in any_vectors(draw, many, wide - 1, most, 0)])

    def test_great_integers(self):
        draw = random.Random(203)
        for wide in (2, 3, 4, 5):
            for _ in range(10):
                vectors = any_vectors(draw, wide + 2, wide, 10 ** 40)
                self.check_both(vectors)
                self.check_both([[*row[:-1], sum(map(abs, row))] for row in vectors])

    def test_told_twice_in_multiples_and_as_sums(self):
        draw = random.Random(204)
        for wide in (2, 3, 4):
            for _ in range(10):
                vectors = [[*row, sum(map(abs, row)) + 1] for row in any_vectors(draw, wide + 2, wide - 1, 5)]
                if rank(vectors) < wide:
                    continue
                walls, rays = walls_of(vectors), least_of(vectors)
                more = [vectors[0], [3 * number for number in vectors[1]],
                        [10 ** 30 * number for number in vectors[2]],
                        [2 * here + 7 * there for here, there in zip(vectors[0], vectors[1])],
                        [sum(column) for column in zip(*vectors)]]
                for told in (vectors + more, more + vectors, vectors[::-1] + more[::-1], [*vectors, *rays]):
                    self.assertEqual((walls_of(told), least_of(told)), (walls, rays))
                    self.assertEqual(walls_of(tuple(tuple(row) for row in told)), walls)

    def test_what_is_made_and_what_is_not(self):
        draw = random.Random(205)
        for _ in range(30):
            vectors = [[*row, 9] for row in any_vectors(draw, 6, 3, 8)]
            walls, rays = walls_of(vectors), least_of(vectors)
            for row in vectors:
                self.assertTrue(all(product(row, wall) >= 0 for wall in walls))
            for ray in rays:
                self.assertEqual(ray, lowest(ray))
                self.assertIn(ray, [lowest(row) for row in vectors])
                # Without a ray less is made: it is beyond a wall of the others.
                others = [row for row in rays if row != ray]
                around = walls_by_determinants(others)
                self.assertTrue(around is None or any(product(ray, wall) < 0 for wall in around))

    def test_regular_ones(self):
        cube = [(x, y, z, 1) for x in (0, 1, 2) for y in (0, 1, 2) for z in (0, 1, 2)]
        self.assertEqual(least_of(cube), tuple(sorted((x, y, z, w) for x, y, z, w in (
            lowest(row) for row in cube if set(row[:3]) <= {0, 2}))))
        self.assertEqual(walls_of(cube), ((-1, 0, 0, 2), (0, -1, 0, 2), (0, 0, -1, 2), (0, 0, 1, 0), (0, 1, 0, 0),
                                          (1, 0, 0, 0)))
        for wide in range(2, 9):
            units = [[int(at == index) for at in range(wide)] for index in range(wide)]
            self.assertEqual(walls_of(units), tuple(sorted(map(tuple, units))))
            self.assertEqual(least_of([[5 * number for number in row] for row in units]), walls_of(units))
            check_raises(self, Misfit("vectors"), walls_of, units[1:])
            check_raises(self, Misfit("vectors"), walls_of, [*units, [-1] * wide])
            check_raises(self, Misfit("vectors"), least_of, [*units, [-number for number in units[0]]])
            check_raises(self, Misfit("vectors"), least_of, [*units[1:], units[1]])

    def test_lines_and_planes(self):
        draw = random.Random(206)
        for wide in (3, 4, 5):
            for many in (wide, wide + 3):
                self.assertFalse(self.check_both(flat_vectors(draw, many, wide, 4)))
            vectors = [[*row, 1] for row in any_vectors(draw, wide + 2, wide - 1, 3)]
            opposite = [-sum(column) for column in zip(*vectors[:2])]
            self.assertFalse(self.check_both([*vectors, opposite]))
            self.assertFalse(self.check_both([opposite, *vectors]))
        for vectors in ([(1, 0), (-1, 0)], [(1, 0), (-1, 0), (0, 1)], [(1, 2)], [(1, 0), (0, 1), (-1, -1)],
                        [(1, 1), (2, 2), (10 ** 50, 10 ** 50)]):
            self.assertFalse(self.check_both(vectors))

    def test_one_and_forty(self):
        for many in (1, 2, 40):
            rows = [[at, at * at, 1] for at in range(many)]
            if many < 3:
                check_raises(self, Misfit("vectors"), walls_of, rows)
            else:
                self.assertEqual(least_of(rows), tuple(sorted(map(tuple, rows))))
                self.assertEqual(len(walls_of(rows)), 40)
                check_raises(self, BadNumber("vectors"), walls_of, [*rows, rows[0]])
                check_raises(self, BadNumber("vectors"), least_of, [*rows, rows[0]])

    def test_no_vectors(self):
        for value in (None, 1, True, "12", "", {}, {(1, 2): 1}, [], (), [[]], [[1]], [(1,), (2,)], [1, 2], [[1, 2], 3],
                      [[1, 2], [3]], [[1, 2], [3, 4, 5]], [[0, 0]], [[1, 2], [0, 0]], [[0, 0, 0], [1, 2, 3]],
                      [[1, True]], [[True, False], [1, 2]], [[1, 0.0]], [[1, (1, 2)], [2, 3]], [["1", 2]], ["12", "34"],
                      [[1, None]], [[1] * 9], [[1, 2], None], [{0: 1, 1: 2}], [[0] * 8], [[(1, 2)], [(2, 3)]]):
            check_raises(self, BadNumber("vectors"), walls_of, value)
            check_raises(self, BadNumber("vectors"), least_of, value)
        # What is no list of vectors is told ahead of what they make.
        check_raises(self, BadNumber("vectors"), walls_of, [(1, 0), (-1, 0), (0, 0)])
        self.assertEqual(walls_of(vectors=[(1, 0), (0, 1)]), least_of(vectors=[(1, 0), (0, 1)]))

    def test_what_is_passed_stays(self):
        vectors = [[2, 0, 0], [0, 3, 0], [1, 1, 1], [0, 0, 4]]
        before, kept = repr(vectors), listed(vectors)
        told = walls_of(vectors), least_of(vectors)
        self.assertEqual(repr(vectors), before)
        vectors[0][1] = -5
        self.assertEqual((walls_of(kept), least_of(kept)), told)
        self.assertNotEqual(walls_of(vectors), told[0])


if __name__ == "__main__":
    unittest.main()
