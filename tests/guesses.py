"""Stands with guesses, and what the rival's hands can earn at most by books that are best against a guess."""

import random
from fractions import Fraction

from cones_of import great_listed_pieces, has_few_hands, listed_pieces
from determinants import product
from fractions_of import fraction, fractions, number
from reckoning import earned
from trees import any_book, any_number, any_reach, great_places, places_of_all_kinds

from planless.lists import rays_for, walls_for
from planless.programs import Best, Program, solved
from planless.worths import worth


def any_guess(draw, hands):
    """Return any guess for so many hands."""
    return draw.choice(([1] * hands, [draw.randint(1, 3) for _ in range(hands)],
                        [number(Fraction(draw.randint(1, 9), draw.randint(1, 9))) for _ in range(hands)],
                        [any_number(draw, 1) for _ in range(hands)]))


def most_earned(piece, reach, guess, hand):
    """Return the most that a hand earns by a best book, as a fraction, by a program over the walls of the piece."""
    mine, many = piece.keeper_hands, piece.rival_hands
    value = worth(piece, reach, guess).number
    rows = [(fractions(wall[mine:]), -product(fractions(reach), wall[:mine])) for wall in walls_for(piece)]
    rows.append(([-here for here in fractions(guess)], -fraction(value)))
    # A limit may be below 0: so it is told as one number less another one.
    conditions = [([number(here) for here in row] + [number(-here) for here in row], "least", number(right))
                  for row, right in rows]
    costs = [-int(at == hand) for at in range(many)] + [int(at == hand) for at in range(many)]
    told = solved(Program(costs, conditions))
    assert told.__class__ is Best
    return -fraction(told.value)


def stands_with_guesses(seed, many=4, great=5):
    """Return pieces with stands of their cones and with guesses."""
    draw, found = random.Random(seed), []
    for piece in places_of_all_kinds(many, seed) + great_places(great, seed):
        reach, guess = any_reach(draw, piece.keeper_hands), any_guess(draw, piece.rival_hands)
        for book in (worth(piece, reach, guess).book, worth(piece, reach, any_reach(draw, piece.rival_hands)).book,
                     any_book(draw, piece, "keeper")):
            limits = [number(value + draw.choice((0, 0, 1))) for value in earned(book, reach)]
            found.append((piece, reach, limits, guess))
        if has_few_hands(piece):
            stands = tied_stands(draw, piece)
            found.extend([(piece, *stand) for stand in draw.sample(stands, min(3, len(stands)))])
    return found


def tied_stands(draw, piece):
    """Return stands on a wall of the cone, with the wall's rival reach for a guess: so several books may be best."""
    mine, rays, found = piece.keeper_hands, rays_for(piece), []
    for wall in walls_for(piece):
        here = [ray for ray in rays if product(ray, wall) == 0]
        if min(wall[mine:]) > 0 and len(here) > 1:
            weights = [draw.choice((0, 1, 1, 2)) for _ in here]
            row = [sum(weight * ray[at] for weight, ray in zip(weights, here)) for at in range(len(wall))]
            found.append((row[:mine], row[mine:], list(wall[mine:])))
    return found


def stands_just_safe(seed, many=16, great=10):
    """Return pieces with stands, guesses, and the most that each hand earns by a best book."""
    draw, found = random.Random(seed), []
    for piece in listed_pieces(many, seed, (2, 3)) + great_listed_pieces(great, seed):
        if len(walls_for(piece)) > 55:
            continue
        reach, guess = any_reach(draw, piece.keeper_hands), any_guess(draw, piece.rival_hands)
        limits = [number(value) for value in earned(worth(piece, reach, guess).book, reach)]
        stands = tied_stands(draw, piece)
        for reach, limits, guess in [(reach, limits, guess), *draw.sample(stands, min(2, len(stands)))]:
            most = [most_earned(piece, reach, guess, hand) for hand in range(piece.rival_hands)]
            found.append((piece, reach, limits, guess, most))
    return found
