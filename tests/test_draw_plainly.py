"""Promise 3 on many texts and rectangles, held to the document's formulas gone through cell by cell."""

import random
import unittest

from armstold.arms import bl_draw
from plainly import cell, drawn, tree_of
from samples import CHARGES, FIELDS, ITEMS, NUMBERS_OF_CHARGES, ORDINARIES, PARTINGS, bytes_of, some_arms

SIDES = [
    (1, 1), (1, 2), (2, 1), (2, 2), (1, 9), (9, 1), (3, 3), (3, 8), (8, 3), (4, 4), (5, 7), (7, 5), (12, 12), (13, 10),
    (10, 13), (16, 17), (24, 24), (1, 40), (40, 1), (2, 33), (33, 2), (30, 11), (11, 30), (25, 25),
]


class Plainly(unittest.TestCase):
    def held(self, wide, high, shield, text):
        self.assertEqual(
            bl_draw(wide, high, shield, bytes_of(text)), [0] + drawn(wide, high, shield, text), (wide, high, text)
        )

    def test_each_field(self):
        for text in FIELDS:
            for wide, high in SIDES:
                self.held(wide, high, 0, text)

    def test_each_item(self):
        for item in ITEMS:
            for wide, high in SIDES:
                self.held(wide, high, 0, f"or, {item}")

    def test_arms_as_halves_of_each_parting(self):
        for parting in PARTINGS:
            for first, second in [("(vair, a bend or)", "ermine"), ("vair", "(paly of six or and vair, a chief or)")]:
                for wide, high in SIDES:
                    self.held(wide, high, 0, f"{parting} {first} and {second}, three annulets purpure")

    def test_shield(self):
        for wide, high in SIDES:
            for shield in [1, -7]:
                self.held(wide, high, shield, "quarterly (ermine, a cross or) and (vair), a bordure gules")

    def test_all_narrow_rectangles(self):
        for item in ["a bordure gules", "a chevron gules", "six annulets gules", "three roundels gules"]:
            for long in range(1, 30):
                for short in [1, 2, 3]:
                    self.held(long, short, 1, f"per chevron or and vair, {item}")
                    self.held(short, long, 1, f"per chevron or and vair, {item}")

    def test_arms_of_all_sorts(self):
        source = random.Random(3)
        for number in range(700):
            wide = source.choice([1, 2, 3, 5, source.randint(1, 35)])
            high = source.choice([1, 2, 3, 5, source.randint(1, 35)])
            self.held(wide, high, source.choice([0, 1]), some_arms(source))

    def test_cells_here_and_there_of_1024_by_1024(self):
        source = random.Random(4)
        items = [f"a {ordinary} gules" for ordinary in ORDINARIES]
        items += [f"{number} {charge}s azure" for number, charge in zip(NUMBERS_OF_CHARGES * 2, CHARGES)]
        texts = ["or, " + item for item in items] + [
            "quarterly (quarterly (vair, a roundel or) and ermine) and (lozengy of ten or and gules), a saltire vert",
            "per chevron (bendy of twelve or and gules) and (vair, six annulets gules), a bend sinister azure",
        ]
        for text in texts:
            cells = bl_draw(1024, 1024, 0, bytes_of(text))[1:]
            self.assertEqual(len(cells), 1024 * 1024)
            tree = tree_of(text)
            for number in range(400):
                x = source.randrange(1024)
                y = source.randrange(1024)
                self.assertEqual(cells[1024 * y + x], cell(tree, x, y, 1024, 1024), (text, x, y))


if __name__ == "__main__":
    unittest.main()
