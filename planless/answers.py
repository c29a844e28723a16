"""What is paid, and what the hands of a side can earn at best against a book."""

from planless.arguments import check_answered, check_played
from planless.books import Book
from planless.earnings import all_earned, all_reaches, drawn_weights
from planless.hands import by_choice, earned_at_end, picked
from planless.numbers import added, matched_sum, multiplied
from planless.pieces import choosing_ways, part_ways, place_at


def pay(piece, keeper_book, rival_book, reach, rival_reach):
    """Return what is paid if both sides play by these books."""
    check_played(piece, keeper_book, "keeper_book", rival_book, reach, rival_reach)
    reaches = all_reaches(keeper_book, reach)
    rival_reaches = all_reaches(rival_book, rival_reach)
    paid = []
    for way, weight in drawn_weights(piece).items():
        place = place_at(piece, way)
        if place.KIND == "end":
            earned = earned_at_end(place, "keeper", reaches[way])
            paid.append(multiplied(weight, matched_sum(earned, rival_reaches[way])))
    return added(paid)


def choice_row(side, values):
    """Return the row of a hand that takes the first of its choices that are best against this side."""
    at = values.index(picked(side, values))
    return [1 if choice == at else 0 for choice in range(len(values))]


def answer_to_book(book, reach):
    """Return the other side's book in which each hand does as well as it can."""
    other = "rival" if book.side == "keeper" else "keeper"
    earned = all_earned(book, reach)
    chances = []
    for way in choosing_ways(book.piece, other):
        place = place_at(book.piece, way)
        below = [earned[part_way] for part_way in part_ways(place, way)]
        chances.append([choice_row(book.side, values) for values in by_choice(place, below)])
    return Book(book.piece, other, chances)


def best_limits(piece, book, reach):
    """Return what the rival's hands are paid at best against a book of the keeper."""
    check_answered(piece, book, "keeper", reach, "reach")
    return all_earned(book, reach)[()]


def best_answer(piece, book, reach):
    """Return the rival's book in which each hand does as well as it can against a book of the keeper."""
    check_answered(piece, book, "keeper", reach, "reach")
    return answer_to_book(book, reach)


def floors(piece, book, rival_reach):
    """Return what the keeper's hands pay at least against a book of the rival."""
    check_answered(piece, book, "rival", rival_reach, "rival_reach")
    return all_earned(book, rival_reach)[()]


def floor_answer(piece, book, rival_reach):
    """Return the keeper's book in which each hand pays as little as it can against a book of the rival."""
    check_answered(piece, book, "rival", rival_reach, "rival_reach")
    return answer_to_book(book, rival_reach)
