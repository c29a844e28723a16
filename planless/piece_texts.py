"""Places read from their texts."""

from planless.errors import BadText, Misfit, TooMany
from planless.pieces import (
    Draw, End, Hole, KeeperHides, KeeperMove, KeeperSees, KeeperShows, RivalHides, RivalMove, RivalSees, RivalShows)
from planless.places import MOST_COUNT, MOST_HANDS, MOST_LEVELS, MOST_PARTS
from planless.readings import Reading

WORDS = ("end", "hole", "keeper-move", "rival-move", "draw", "keeper-hides", "rival-hides", "keeper-sees",
         "rival-sees", "keeper-shows", "rival-shows")


def hands_read(reading):
    """Take a number of hands."""
    return reading.take_within(1, MOST_HANDS)


def end_read(reading):
    """Take the table of an end."""
    many = hands_read(reading)
    wide = hands_read(reading)
    numbers = [reading.take_number() for _ in range(many * wide)]
    return [numbers[at * wide:at * wide + wide] for at in range(many)], 0


def hole_read(reading):
    """Take how many hands a hole has."""
    keeper_hands = hands_read(reading)
    return (keeper_hands, hands_read(reading)), 0


def move_read(reading):
    """Take how many parts a move has."""
    return None, reading.take_within(1, MOST_PARTS)


def draw_read(reading):
    """Take the weights of a draw."""
    many = reading.take_within(1, MOST_PARTS)
    return [reading.take_weight() for _ in range(many)], many


def hides_read(reading):
    """Take the counts of a place where a side hides."""
    many = hands_read(reading)
    return [reading.take_within(1, MOST_COUNT) for _ in range(many)], 1


def sights_row_read(reading):
    """Take the weights of a hand that sees."""
    many = hands_read(reading)
    return [reading.take_weight() for _ in range(many)]


def sees_read(reading):
    """Take the weights of a place where a side sees."""
    many = hands_read(reading)
    return [sights_row_read(reading) for _ in range(many)], 1


def shows_read(reading):
    """Take the lots of a place where a side shows."""
    many = hands_read(reading)
    lots = []
    for hand in range(many):
        at = reading.take_within(0, min(len(lots), MOST_PARTS - 1))
        if at == len(lots):
            lots.append([])
        lots[at].append(hand)
    return lots, len(lots)


# For each word what takes the items ahead of the parts; it tells what stands there, and how many parts follow.
HEADS = {
    "end": end_read,
    "hole": hole_read,
    "keeper-move": move_read,
    "rival-move": move_read,
    "draw": draw_read,
    "keeper-hides": hides_read,
    "rival-hides": hides_read,
    "keeper-sees": sees_read,
    "rival-sees": sees_read,
    "keeper-shows": shows_read,
    "rival-shows": shows_read,
}


def sketch_read(reading, level):
    """Take a place on this level: its word, its head, and likewise its parts."""
    word = reading.take_word(WORDS if level <= MOST_LEVELS else ())
    take_head = HEADS[word]
    head, many = take_head(reading)
    return word, head, [sketch_read(reading, level + 1) for _ in range(many)]


def made_of(sketch):
    """Return the place that was sketched."""
    word, head, sketches = sketch
    parts = [made_of(part) for part in sketches]
    match word:
        case "end":
            return End(head)
        case "hole":
            return Hole(head[0], head[1])
        case "keeper-move":
            return KeeperMove(parts)
        case "rival-move":
            return RivalMove(parts)
        case "draw":
            return Draw(head, parts)
        case "keeper-hides":
            return KeeperHides(head, parts[0])
        case "rival-hides":
            return RivalHides(head, parts[0])
        case "keeper-sees":
            return KeeperSees(head, parts[0])
        case "rival-sees":
            return RivalSees(head, parts[0])
        case "keeper-shows":
            return KeeperShows(head, parts)
    return RivalShows(head, parts)


def read(text):
    """Return the place whose text this is."""
    reading = Reading(text)
    # A later item that cannot stand is told ahead of parts that do not fit; so places are made last.
    sketch = sketch_read(reading, 1)
    reading.check_end()
    try:
        return made_of(sketch)
    except (Misfit, TooMany):
        raise BadText(0, reading.last())
