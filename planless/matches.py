"""Matches: a player plays a game for the keeper, and all that happens is told number by number."""

from planless.answers import pay
from planless.best_books import best_books
from planless.books import check_book
from planless.checks import is_weight, is_within
from planless.errors import BadNumber, Misfit
from planless.hands import hands_below
from planless.judges import check_game
from planless.numbers import added, number_text, precedes
from planless.players import Player, played_book, player_at


def wanted_at(place):
    """Return the word for what a match wants at a place."""
    match place.KIND:
        case "draw":
            return "part"
        case "sees":
            return place.SIDE
        case "move" | "hides":
            return "choice" if place.SIDE == "rival" else "coin"
    return "nothing"


def taken_by_coin(row, coin):
    """Return the first choice whose chance, with those of all ahead of it, is above the coin."""
    at = 0
    while not precedes(coin, added(row[:at + 1])):
        at += 1
    return at


def weights_at(place, hand):
    """Return the weight of each number that may be told at a place of such a hand; of a choice it is 1."""
    match place.KIND:
        case "draw":
            return place.weights
        case "sees":
            return place.weights[hand]
        case "hides":
            return [1 for _ in range(place.counts[hand])]
    return [1 for _ in place.parts]


def lot_of(place, hand):
    """Return the number of the lot in which a hand is."""
    return [hand in lot for lot in place.lots].index(True)


def part_and_hand(place, hand, number):
    """Return the part to which a number leads, and how a hand of the side whose place this is is numbered there."""
    match place.KIND:
        case "hides" | "sees":
            return 0, hands_below(place)[hand][number]
        case "shows":
            return number, place.lots[number].index(hand)
    return number, hand


def word_of(place):
    """Return the word for what goes on at a place."""
    return "draw" if place.KIND == "draw" else f"{place.SIDE}-{place.KIND}"


class Match:
    """A game that a player plays for the keeper, with the hands that both sides truly have."""

    def __init__(self, game):
        check_game(game)
        self.worth = best_books(game, (1,), (1,))[0]
        self.seated = Player(game, (1,), (self.worth,))
        self.keeper_hand = 0
        self.rival_hand = 0
        self.paid = None
        self.story = ()
        self.wants = ""
        self.settle()

    def sitting(self):
        """Return a player that stands as the one that sits."""
        return player_at(self.seated.piece, self.seated.way, self.seated.reach, self.seated.limits)

    def told(self, value):
        """Take what is wanted, and go on until something is wanted again."""
        if self.wants == "nothing":
            raise Misfit("over")
        if self.wants == "coin":
            self.take_coin(value)
        else:
            self.take_number(value)
        self.settle()

    def true_hand(self, side):
        """Return the hand that a side truly has."""
        return self.keeper_hand if side == "keeper" else self.rival_hand

    def take_coin(self, coin):
        """Let the keeper's true hand choose by a coin."""
        if not is_weight(coin) or not precedes(coin, 1):
            raise BadNumber("value")
        choice = taken_by_coin(self.seated.chances()[self.keeper_hand], coin)
        self.go(choice, f"{number_text(coin)} {choice}")

    def take_number(self, number):
        """Take how a draw falls, or what the rival chooses."""
        place = self.seated.piece
        weights = weights_at(place, self.true_hand(place.SIDE))
        if not is_within(number, 0, len(weights) - 1):
            raise BadNumber("value")
        if weights[number] == 0:
            raise Misfit("weight")
        self.go(number, f"{number}")

    def go(self, number, line):
        """Go on as a number tells: of a part, of what a side hides or sees, or of a lot."""
        place = self.seated.piece
        part, hand = part_and_hand(place, self.true_hand(place.SIDE), number)
        self.seated.goes(part)
        if place.SIDE == "keeper":
            self.keeper_hand = hand
        elif place.SIDE == "rival":
            self.rival_hand = hand
        self.story = (*self.story, f"{word_of(place)} {line}")

    def settle(self):
        """Go on by itself while hands are shown; then tell what is wanted, or what is paid at the end."""
        place = self.seated.piece
        while place.KIND == "shows":
            lot = lot_of(place, self.true_hand(place.SIDE))
            self.go(lot, f"{lot}")
            place = self.seated.piece
        self.wants = wanted_at(place)
        if place.KIND == "end":
            self.paid = place.table[self.keeper_hand][self.rival_hand]
            self.story = (*self.story, f"end {number_text(self.paid)}")


def mean_paid(game, rival_book):
    """Return what a book of the rival is paid in the mean in matches of a game."""
    check_game(game)
    check_book(rival_book, game, "rival", "rival_book")
    number = best_books(game, (1,), (1,))[0]
    return pay(game, played_book(game, (1,), (number,)), rival_book, (1,), (1,))
