import random
import unittest

from examples import check_raises
from trees import HIDE, KINDS, chain, some_places, wide

from planless.checks import is_weight, is_within
from planless.errors import BadText
from planless.numbers import number_of
from planless.piece_texts import read
from planless.pieces import End, Hole, KeeperMove, KeeperShows, place_at, ways

SIXTY = "9" * 60
NEVER = ["", "x", "+1", "01", "-0", "00", "4/2", "3/1", "0/5", "1/-2", "1.5", "End", "keeper", "move", "1\n", "\t1",
         "/", "1/", "/2", "\u0661", "1" + "0" * 60, "1/1" + "0" * 60, "-", "keeper_move", "end,"]
SOME = ["0", "1", "2", "3", "5", "6", "7", "8", "9", "-1", "1/2", "-1/2", SIXTY, "end", "hole", "draw", "keeper-move",
        "rival-hides", "keeper-sees", "rival-shows"]
TEXTS = [text for _, text in KINDS] + [str(place) for place in some_places(40, holes=((1, 1), (2, 1), (2, 2)))] + [
    str(HIDE), "draw 2 1 0 hole 1 1 hole 1 1", f"end 1 3 {SIXTY} -{SIXTY} 1/{SIXTY}",
    "rival-shows 8 0 1 2 3 4 5 5 0 hole 1 2 hole 1 1 hole 1 1 hole 1 1 hole 1 1 hole 1 2"]


def number_in(item):
    """Return the number whose text the item is, or None."""
    try:
        return number_of(item)
    except BadText:
        return None


class Walk:
    """Reads items with a pile of what is wanted next, and keeps the hands of what it has read."""

    def __init__(self):
        self.wanted = [("place", 1)]

    def takes(self, item):
        """Tell whether the item can stand next; if so go on."""
        kind, *told = self.wanted.pop()
        value = number_in(item)
        if kind == "place":
            return self.takes_word(item, told[0])
        if kind == "number":
            return value is not None
        if kind == "weight":
            return value is not None and is_weight(value)
        if kind == "lot":
            return self.takes_lot(value, *told)
        least, most, then = told
        if not is_within(value, least, most):
            return False
        then(value)
        return True

    def want(self, *kinds):
        self.wanted.extend(reversed(kinds))

    def takes_word(self, word, level):
        if level > 10:
            return False
        part = ("place", level + 1)
        if word == "end":
            self.want(("int", 1, 8, lambda many: self.want(("int", 1, 8, lambda wide: self.want(
                *[("number",)] * (many * wide))))))
        elif word == "hole":
            self.want(("int", 1, 8, lambda many: self.want(("int", 1, 8, lambda wide: None))))
        elif word in ("keeper-move", "rival-move"):
            self.want(("int", 1, 6, lambda many: self.want(*[part] * many)))
        elif word == "draw":
            self.want(("int", 1, 6, lambda many: self.want(*[("weight",)] * many, *[part] * many)))
        elif word in ("keeper-hides", "rival-hides"):
            self.want(("int", 1, 8, lambda many: self.want(*[("int", 1, 4, lambda count: None)] * many, part)))
        elif word in ("keeper-sees", "rival-sees"):
            row = ("int", 1, 8, lambda many: self.want(*[("weight",)] * many))
            self.want(("int", 1, 8, lambda many: self.want(*[row] * many, part)))
        elif word in ("keeper-shows", "rival-shows"):
            self.want(("int", 1, 8, lambda many: self.want(("lot", many, 0, part))))
        else:
            return False
        return True

    def takes_lot(self, value, left, lots, part):
        if not is_within(value, 0, min(lots, 5)):
            return False
        lots = max(lots, value + 1)
        self.want(*[("lot", left - 1, lots, part)] if left > 1 else [part] * lots)
        return True


def first_wrong(items):
    """Return the index of the first item that cannot stand, or None."""
    walk = Walk()
    for at, item in enumerate(items):
        if not walk.wanted or not walk.takes(item):
            return at
    return len(items) if walk.wanted else None


def hands_from(items):
    """Take the items of a place; return its hands on both sides and how many places are in it, or raise."""
    word, many = items.pop(0), int(items.pop(0))
    if word in ("end", "hole"):
        wide = int(items.pop(0))
        if word == "end":
            del items[:many * wide]
        return many, wide, 1
    mine, lots = [], [0]
    if word == "draw":
        del items[:many]
    elif word.endswith("hides"):
        mine = [int(items.pop(0)) for _ in range(many)]
    elif word.endswith("sees"):
        for _ in range(many):
            mine.append(int(items.pop(0)))
            del items[:mine[-1]]
    elif word.endswith("shows"):
        lots = [int(items.pop(0)) for _ in range(many)]
    single = bool(mine)
    below = [hands_from(items) for _ in range(1 if single else max(lots) + 1 if "shows" in word else many)]
    places = 1 + sum(part[2] for part in below)
    side = 0 if word.startswith("keeper") else 1
    others = {part[1 - side] for part in below}
    if single:
        wanted = [sum(mine)]
    elif "shows" in word:
        wanted = [lots.count(at) for at in range(max(lots) + 1)]
    else:
        wanted, many = [below[0][side]] * len(below), below[0][side]
    if wanted != [part[side] for part in below] or len(others) != 1 or places > 120:
        raise ValueError
    return (many, others.pop(), places) if side == 0 else (others.pop(), many, places)


def whole_is_right(items):
    """Tell whether parts fit, and places are not too many."""
    try:
        hands_from(list(items))
    except ValueError:
        return False
    return True


class PieceTextsTest(unittest.TestCase):
    def check(self, items):
        """Check that the text is read if it is one, and refused where it must be; return whether it is one."""
        text, wrong = " ".join(items), first_wrong(items)
        if wrong is None and not whole_is_right(items):
            wrong = len(items) - 1
        if wrong is not None:
            check_raises(self, BadText(0, wrong), read, text)
            return False
        place = read(text)
        self.assertEqual(str(place), text)
        self.assertEqual(place, read(text))
        return True

    def test_each_kind(self):
        for place, text in KINDS:
            self.assertEqual(str(place), text)
            self.assertIs(read(text).__class__, place.__class__)
            self.assertEqual(read(text=text), place)

    def test_trees(self):
        places = some_places(200, holes=((1, 1), (2, 1), (3, 3)), seed=3) + [wide(120), chain(HIDE, 7)]
        for place in places:
            told = read(str(place))
            self.assertEqual(told, place)
            self.assertEqual(str(told), str(place))
            self.assertEqual((told.many, told.levels, told.keeper_hands, told.rival_hands),
                             (place.many, place.levels, place.keeper_hands, place.rival_hands))
            self.assertTrue(self.check(str(place).split(" ")))
            for way in ways(place):
                self.assertEqual(read(str(place_at(place, way))), place_at(place, way))

    def test_numbers_are_kept(self):
        told = read("end 2 2 7/2 0 -1/3 5")
        self.assertEqual(repr(told.table), "(((7, 2), 0), ((-1, 3), 5))")
        self.assertEqual(repr(read("keeper-shows 3 0 1 0 hole 2 1 hole 1 1").lots), "((0, 2), (1,))")
        self.assertEqual(repr(read("rival-sees 2 1 0 2 1/2 3 hole 1 3").weights), "((0,), ((1, 2), 3))")
        self.assertEqual(repr(read("keeper-hides 2 4 1 hole 5 3").counts), "(4, 1)")

    def test_no_string(self):
        for value in (None, True, 0, 1, b"end 1 1 5", ["end", "1", "1", "5"], ("hole", "1", "1"), {}, HIDE):
            check_raises(self, BadText(0, 0), read, value)

    def test_bent_at_any_item(self):
        for text in TEXTS:
            items = text.split(" ")
            self.assertTrue(self.check(items))
            for at in range(len(items)):
                for item in NEVER:
                    check_raises(self, BadText(0, at), read, " ".join([*items[:at], item, *items[at + 1:]]))
                check_raises(self, BadText(0, at), read, " ".join([*items[:at], "", *items[at:]]))
                check_raises(self, BadText(0, at), read, " ".join(items[:at]))
                self.check([*items[:at], *items[at + 1:]])
                for item in SOME:
                    self.check([*items[:at], item, *items[at + 1:]])
                    self.check([*items[:at], item, *items[at:]])
            check_raises(self, BadText(0, len(items)), read, text + " ")
            check_raises(self, BadText(0, len(items)), read, text + " 1")
            check_raises(self, BadText(0, 0), read, " " + text)

    def test_any_items(self):
        draw = random.Random(9)
        right = 0
        for _ in range(4000):
            items = []
            while len(items) < 30:
                fitting = [item for item in SOME if first_wrong([*items, item]) not in range(len(items) + 1)]
                if not fitting:
                    break
                items.append(draw.choice(fitting if draw.random() < .98 else SOME))
                if first_wrong(items) != len(items):
                    break
            right += self.check(items)
            if right > 40:
                break
        self.assertGreater(right, 40)

    def test_bounds(self):
        for text, item in (
            ("end 0 1", 1), ("end 9 1", 1), ("end 1 0", 2), ("end 1 9", 2), ("hole 0 1", 1), ("hole 9 1", 1),
            ("hole 1 0", 2), ("hole 1 9", 2), ("hole -1 1", 1), ("hole 1/2 1", 1), ("keeper-move 0", 1),
            ("keeper-move 7 x", 1), ("rival-move 7", 1), ("draw 0", 1), ("draw 7", 1), ("draw 1 -1", 2),
            ("draw 2 1 -1/2", 3), ("keeper-hides 0", 1), ("keeper-hides 9", 1), ("rival-hides 1 0", 2),
            ("rival-hides 2 4 5", 3), ("keeper-sees 0", 1), ("rival-sees 9", 1), ("rival-sees 1 0", 2),
            ("rival-sees 1 9", 2), ("keeper-sees 2 1 0 1 -1", 5), ("keeper-shows 0", 1), ("keeper-shows 9", 1),
            ("keeper-shows 1 1", 2), ("keeper-shows 3 0 2", 3), ("keeper-shows 3 0 1 3", 4), ("rival-shows 2 0 -1", 3),
            ("rival-shows 8 0 1 2 3 4 5 6", 8), ("rival-shows 8 0 1 2 3 4 5 5 6", 9), ("rival-shows 2 -1 0", 2),
        ):
            check_raises(self, BadText(0, item), read, text)
            check_raises(self, BadText(0, item), read, text + " hole 1 1 x")

    def test_digits(self):
        self.assertEqual(read(f"end 1 2 {SIXTY} -1/{SIXTY}"), End([[int(SIXTY), (-1, int(SIXTY))]]))
        for item in ("1" + "0" * 60, "-1" + "0" * 60, "1/1" + "0" * 60, "1" + "0" * 60 + "/3"):
            check_raises(self, BadText(0, 3), read, f"end 1 2 {item} 1")
        # What was returned may be passed on: it is written, whatever its digits.
        self.assertEqual(str(End([[10 ** 60]])), "end 1 1 1" + "0" * 60)

    def test_the_eleventh_level(self):
        for word in ("end 1 1 5", "hole 1 1"):
            text = "keeper-move 1 " * 9 + word
            self.assertEqual(read(text).levels, 10)
            check_raises(self, BadText(0, 20), read, "keeper-move 1 " + text)
            check_raises(self, BadText(0, 20), read, "keeper-move 1 " * 10 + "x")
            check_raises(self, BadText(0, 20), read, "keeper-move 1 " * 11 + word)
        check_raises(self, BadText(0, 20), read, " ".join(["keeper-move 1"] * 10))
        check_raises(self, BadText(0, 20), read, "keeper-move 1 " * 1400 + "hole 1 1")
        deep = "keeper-move 2 hole 1 1 " + "keeper-move 1 " * 8 + "hole 1 1"
        self.assertEqual(str(read(deep)), deep)

    def test_only_the_whole_shows(self):
        for text in (
            "keeper-move 2 end 1 1 5 end 1 2 5 6", "rival-move 2 hole 1 1 hole 2 1", "draw 2 1 1 hole 1 1 hole 2 1",
            "keeper-hides 1 2 hole 1 2", "rival-hides 1 2 hole 2 1", "keeper-sees 1 2 1 1 hole 1 2",
            "rival-sees 1 2 1 1 hole 2 1", "keeper-shows 2 0 1 hole 1 1 hole 2 1", "keeper-shows 2 0 1 hole 1 1 hole 1 2",
            "rival-shows 2 0 0 hole 1 1", "keeper-hides 3 4 4 4 hole 8 1", "keeper-move 1 keeper-hides 1 3 end 2 1 5 6",
        ):
            items = text.split(" ")
            check_raises(self, BadText(0, len(items) - 1), read, text)
            # What cannot stand, or is missing, is told ahead of it.
            check_raises(self, BadText(0, len(items)), read, text + " 5")
            check_raises(self, BadText(0, len(items) - 1), read, " ".join([*items[:-1], "x"]))
            check_raises(self, BadText(0, len(items) + 2), read, "keeper-move 2 " + text)

    def test_too_many_places(self):
        self.assertEqual(read(str(wide(120))), wide(120))
        for text in ("keeper-move 1 " + str(wide(120)), "draw 2 1 1 " + str(wide(60)) + " " + str(wide(60)),
                     "keeper-move 6" + (" " + str(wide(100, Hole(1, 1)))) * 6):
            check_raises(self, BadText(0, len(text.split(" ")) - 1), read, text)
            check_raises(self, BadText(0, len(text.split(" "))), read, text + " hole")

    def test_what_stands_in_attributes(self):
        told = read("keeper-shows 2 0 1 end 1 1 5 keeper-move 1 end 1 1 6")
        self.assertEqual(told, KeeperShows([[0], [1]], [End([[5]]), KeeperMove([End([[6]])])]))
        self.assertIsInstance(told.parts, tuple)
        self.assertEqual(repr(told.lots), "((0,), (1,))")


if __name__ == "__main__":
    unittest.main()
