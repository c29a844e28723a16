import random
import unittest

from examples import check_raises
from test_players import GUESS, some_stands
from trees import NO_PIECES

from planless.cones import holds
from planless.errors import BadPiece, BadText, Impossible
from planless.pieces import End, KeeperMove, RivalMove
from planless.players import Player, taken_up

WIDE = RivalMove([KeeperMove([End([[1, 2], [3, 4]]), End([[4, 3], [2, 1]])])] * 3)
WIDE_TEXT = "2 0 / 1/2 0 / 1 3/2"


class PlayerTextTest(unittest.TestCase):
    def refuse(self, piece, text, item):
        with self.subTest(text):
            check_raises(self, BadText(0, item), taken_up, piece, text)

    def test_text(self):
        self.assertEqual(str(Player(WIDE, [[1, 2], 0], [2, (3, 2)])), "- / 1/2 0 / 2 3/2")
        player = Player(WIDE, [1, 0], [4, 4])
        player.goes(1)
        player.goes(0)
        self.assertEqual(str(player), "1 0 / {} 0 / {} {}".format(*player.reach[:1], *player.limits))
        self.assertEqual(str(Player(End([[-3]]), [1], [(-5, 2)])), "- / 1 / -5/2")

    def test_taken_up(self):
        player = taken_up(text=WIDE_TEXT, piece=WIDE)
        self.assertEqual((player.way, player.reach, player.limits, player.over, player.piece),
                         ((2, 0), ((1, 2), 0), (1, (3, 2)), True, WIDE.parts[2].parts[0]))
        self.assertEqual(str(player), WIDE_TEXT)
        player = taken_up(WIDE, "- / 1 1 / 99 99")
        self.assertEqual(player, Player(WIDE, [1, 1], [99, 99]))
        player = taken_up(End([[2]]), "- / 1 / 2")
        self.assertEqual((player.way, player.over), ((), True))

    def test_there_and_back(self):
        draw, stands = some_stands(121)
        many = 0
        for piece, reach, limits in stands:
            player = Player(piece, reach, limits)
            while True:
                if max(len(part) for item in str(player).split(" ") for part in item.split("/")) <= 60:
                    other = taken_up(piece, str(player))
                    self.assertEqual(other, player)
                    self.assertEqual((other.way, other.over, str(other)), (player.way, player.over, str(player)))
                    self.assertEqual(repr(other.chances()), repr(player.chances()))
                    many += 1
                if player.over:
                    break
                player.goes(draw.randrange(len(player.piece.parts)))
        self.assertGreater(many, 100)

    def test_each_item_bent(self):
        words = WIDE_TEXT.split(" ")
        for at, word in enumerate(words):
            for bent in ("", "x", "1.0", "+1", "01", "-0", "1/0", "2/4", "3/1", "1//2", "1/-2", "//", "\u0661",
                         "1" + "0" * 60, "1/1" + "0" * 60, "-" if at else "--"):
                self.refuse(WIDE, " ".join(words[:at] + [bent] + words[at + 1:]), at)
            self.refuse(WIDE, " ".join(words[:at]), at)
            if word == "/":
                self.refuse(WIDE, " ".join(words[:at] + ["3"] + words[at + 1:]), at)
                self.refuse(WIDE, " ".join(words[:at] + ["/"] + words[at:]), at + 1)
        for more in ("", "/", "0", "-"):
            self.refuse(WIDE, f"{WIDE_TEXT} {more}", 8)
        for at in (3, 4):
            # A reach may not be below 0, limits may.
            self.refuse(WIDE, " ".join(words[:at] + ["-1"] + words[at + 1:]), at)
            self.refuse(WIDE, " ".join(words[:at] + ["-1/2"] + words[at + 1:]), at)
        self.assertRaises(Impossible, taken_up, WIDE, "2 0 / 1/2 0 / -1 3/2")

    def test_ways(self):
        for text, item in (
            ("3 / 1 1 / 9 9", 0), ("-1 / 1 1 / 9 9", 0), ("1/2 / 1 1 / 9 9", 0), ("/ 1 1 / 9 9", 0), (" / 1 1 / 9 9", 0),
            ("2 2 / 1 1 / 9 9", 1), ("2 1 0 / 1 1 / 9 9", 2), ("- 0 / 1 1 / 9 9", 1), ("- - / 1 1 / 9 9", 1),
            ("0 - / 1 1 / 9 9", 1), ("-/ 1 1 / 9 9", 0), ("0  / 1 1 / 9 9", 1), ("-", 1), ("2 0", 2), ("", 0), ("2", 1),
            ("00 / 1 1 / 9 9", 0),
        ):
            self.refuse(WIDE, text, item)
        # Behind an end there is no part.
        self.refuse(End([[1]]), "0 / 1 / 1", 0)
        self.refuse(GUESS, "0 0 0 / 1 1 / 9", 2)
        self.refuse(GUESS, "1 / 1 1 / 9", 0)

    def test_as_many_numbers_as_hands(self):
        for text, item in (("- / 1 / 9", 3), ("- / 1", 3), ("- / 1 1 / 9", 3), ("- / 1 / 9 9", 5), ("- / / 9", 2),
                           ("0 / 1 1 / 9 9", 6), ("0 / 1 / 9", 3), ("0 / 1 1 /", 5)):
            if text == "- / 1 / 9":
                self.assertEqual(taken_up(GUESS, text), Player(GUESS, [1], [9]))
            else:
                self.refuse(GUESS, text, item)

    def test_long_numbers(self):
        most = 10 ** 60 - 1
        text = f"- / {most}/{most - 1} / {most}"
        self.assertEqual(str(taken_up(GUESS, text)), text)
        self.refuse(GUESS, f"- / {most + 1} / {most}", 2)
        self.refuse(GUESS, f"- / 1/{most + 1} / {most}", 2)
        self.refuse(GUESS, f"- / 1 / {most + 1}", 4)
        self.refuse(GUESS, f"- / 1 / 1/{most + 1}", 4)
        # Its text may have longer numbers than can be read.
        self.assertEqual(str(Player(GUESS, [1], [most + 1])), f"- / 1 / {most + 1}")

    def test_impossible(self):
        for piece, text, place, reach, limits in (
            (GUESS, "- / 1 / -1/9", GUESS, [1], [(-1, 9)]),
            (GUESS, "0 / 1/2 1/2 / -1/9", GUESS.parts[0], [(1, 2), (1, 2)], [(-1, 9)]),
            (GUESS, "0 1 / 1 0 / -2", GUESS.parts[0].parts[1], [1, 0], [-2]),
        ):
            told = holds(place, reach, limits)
            self.assertFalse(told)
            with self.assertRaises(Impossible) as caught:
                taken_up(piece, text)
            self.assertEqual(caught.exception.paper, told)
        # A stand of its own will do: nothing is kept of what was above.
        self.assertEqual(taken_up(GUESS, "0 / 1 0 / 1").limits, (1,))

    def test_no_text(self):
        for value in (None, 1, b"- / 1 / 0", ["- / 1 / 0"], Player(GUESS, [1], [0])):
            self.refuse(GUESS, value, 0)
        for value in NO_PIECES:
            check_raises(self, BadPiece("piece"), taken_up, value, None)

    def test_bent_at_random(self):
        # What can be read is just its own text.
        draw = random.Random(122)
        words = WIDE_TEXT.split(" ")
        for _ in range(400):
            bent = list(words)
            for _ in range(draw.randint(1, 2)):
                at = draw.randrange(len(bent))
                bent[at:at + draw.randint(0, 1)] = [draw.choice(("0", "1", "2", "/", "-", "9", "1/2", "-3/2", ""))]
            text = " ".join(bent)
            try:
                self.assertEqual(str(taken_up(WIDE, text)), text)
            except (BadText, Impossible):
                continue


if __name__ == "__main__":
    unittest.main()
