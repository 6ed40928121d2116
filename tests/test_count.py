"""Promise 4: bl_count, its refusals and its ten numbers, by hand and by what bl_draw answers."""

import random
import unittest

from armstold.arms import bl_count, bl_draw
from kept import Kept
from plainly import drawn
from samples import FIELDS, ITEMS, PARTINGS, TINCTURES, WORDS_2000, WRONG, bytes_of, nested, some_arms

GREATEST = 2147483647
LEAST = -2147483648


def count(wide, high, text, shield=0):
    return bl_count(wide, high, shield, bytes_of(text))


class Case(unittest.TestCase):
    def counted(self, wide, high, text, numbers, shield=0):
        """The numbers are told as a dict, without those that are 0."""
        expected = [0] + [numbers.get(tincture, 0) for tincture in range(10)]
        self.assertEqual(count(wide, high, text, shield), expected, (wide, high, text))


class ByHand(Case):
    def test_one_cell(self):
        for tincture, cell in zip(TINCTURES, [1, 2, 3, 4, 5, 6, 7, 2, 2]):
            self.counted(1, 1, tincture, {cell: 1})
            self.counted(1, 1, tincture, {cell: 1}, shield=1)

    def test_each_tincture(self):
        for number, tincture in enumerate(TINCTURES[:7], start=1):
            self.counted(5, 3, tincture, {number: 15})

    def test_the_order_of_the_ten(self):
        self.assertEqual(count(2, 8, "or", 1), [0, 2, 14, 0, 0, 0, 0, 0, 0, 0, 0])
        self.assertEqual(count(3, 1, "purpure"), [0, 0, 0, 0, 0, 0, 0, 0, 3, 0, 0])

    def test_several(self):
        self.counted(4, 4, "per bend or and gules", {1: 6, 3: 10})
        self.counted(5, 5, "or, a cross gules", {1: 16, 3: 9})
        self.counted(3, 3, "or, a pale gules, a fess azure, a delf sable", {1: 4, 3: 2, 4: 2, 5: 1})
        self.counted(5, 3, "quarterly (per pale gules and azure) and (per fess sable and vert)",
                     {3: 3, 4: 5, 5: 2, 6: 5})

    def test_furs_are_counted_as_they_are_drawn(self):
        self.counted(12, 14, "ermine", {2: 160, 5: 8})
        self.counted(10, 9, "vair", {2: 46, 4: 44})
        self.counted(4, 4, "vair", {2: 16})
        self.counted(8, 8, "per pale ermine and vair", {2: 46, 4: 16, 5: 2})

    def test_outside(self):
        self.counted(8, 8, "or", {0: 6, 1: 58}, shield=1)
        self.counted(8, 8, "or", {0: 6, 1: 58}, shield=-5)
        self.counted(8, 8, "or", {1: 64}, shield=0)
        self.counted(4, 4, "ermine", {0: 2, 2: 14}, shield=LEAST)
        self.counted(10, 10, "gules", {0: 10, 3: 90}, shield=GREATEST)
        for wide, high in [(1, 1), (2, 2), (1, 4), (4, 1), (3, 1), (4, 2)]:
            self.counted(wide, high, "or", {1: wide * high}, shield=1)

    def test_1024_by_1024(self):
        area = 1024 * 1024
        self.counted(1024, 1024, "sable", {5: area})
        self.counted(1024, 1024, "per fess or and gules", {1: area // 2, 3: area // 2})
        self.counted(1024, 1024, "chequy of twelve or and argent", {1: area // 2, 2: area // 2})
        self.counted(1024, 1024, "ermine", {2: area - 128 * 256, 5: 128 * 256})
        self.counted(1024, 1024, "vair", {2: area // 2, 4: area // 2})
        # Where |x - y| is above 128: two corners of 895 + 894 + ... + 1 cells.
        self.counted(1024, 1024, "or, a bend gules", {1: 895 * 896, 3: area - 895 * 896})

    def test_1024_by_1024_outside(self):
        # For each row below the middle: how many of U, odd, are too far to either side.
        outside = 0
        for v in range(1, 1024, 2):
            outside += sum(2 for u in range(1, 1024, 2) if u * u + v * v > 1024 * 1024)
        self.counted(1024, 1024, "vert", {0: outside, 6: 1024 * 1024 - outside}, shield=1)

    def test_1024_by_1(self):
        self.counted(1024, 1, "per pale or and gules", {1: 512, 3: 512})
        self.counted(1, 1024, "per fess or and gules", {1: 512, 3: 512})


class AsDrawn(Case):
    def held(self, wide, high, shield, text):
        cells = bl_draw(wide, high, shield, bytes_of(text))[1:]
        answer = count(wide, high, text, shield)
        self.assertEqual(answer, [0] + [len([cell for cell in cells if cell == number]) for number in range(10)], text)
        self.assertEqual(sum(answer), wide * high)
        self.assertEqual(answer[9:], [0, 0])
        if shield == 0:
            self.assertEqual(answer[1], 0)

    def test_each_field(self):
        for text in FIELDS:
            for wide, high in [(1, 1), (1, 20), (20, 1), (9, 12), (24, 24), (33, 10)]:
                for shield in [0, 1]:
                    self.held(wide, high, shield, text)

    def test_each_item(self):
        for item in ITEMS:
            for wide, high in [(1, 1), (1, 20), (20, 1), (9, 12), (24, 24), (33, 10)]:
                for shield in [0, -1]:
                    self.held(wide, high, shield, f"ermine, {item}")

    def test_arms_as_halves(self):
        for parting in PARTINGS:
            for shield in [0, 2]:
                self.held(17, 13, shield, f"{parting} (vair, a fess or) and (ermine, two delfs vert), a bordure sable")

    def test_six_deep(self):
        for shield in [0, 1]:
            self.held(32, 32, shield, nested(6, "ermine, six annulets vair"))
            self.held(32, 32, shield, "quarterly (" * 5 + "or" + ") and gules" * 5)
        self.counted(32, 32, "quarterly (" * 5 + "or" + ") and gules" * 5, {1: 32, 3: 32 * 31})

    def test_two_thousand_words(self):
        self.held(13, 9, 1, WORDS_2000)

    def test_arms_of_all_sorts_counted_in_the_documents_own_cells(self):
        source = random.Random(5)
        for number in range(300):
            wide = source.randint(1, 20)
            high = source.randint(1, 20)
            text = some_arms(source)
            for shield in [0, 1]:
                cells = drawn(wide, high, shield, text)
                self.assertEqual(count(wide, high, text, shield), [0] + [cells.count(cell) for cell in range(10)], text)


class Refused(Case):
    def test_out_of_bounds_goes_ahead(self):
        texts = ["or", nested(6), WORDS_2000] + [text for text, word in WRONG]
        for side in [0, -1, 1025, 1026, GREATEST, LEAST]:
            for text in texts:
                for shield in [0, 1]:
                    self.assertEqual(count(side, 1, text, shield), [-2])
                    self.assertEqual(count(1, side, text, shield), [-2])
                    self.assertEqual(count(side, side, text, shield), [-2])

    def test_at_each_kind_of_place(self):
        for text, word in WRONG:
            for wide, high in [(1, 1), (3, 2), (1024, 1024)]:
                for shield in [0, 1]:
                    self.assertEqual(count(wide, high, text, shield), [-3 - word], text)

    def test_a_bracket_beyond(self):
        self.assertEqual(count(3, 3, nested(7)), [-3 - 17])

    def test_more_words(self):
        self.assertEqual(count(3, 2, WORDS_2000)[0], 0)
        self.assertEqual(count(3, 2, WORDS_2000 + ", a fess or"), [-2003])

    def test_bytes(self):
        self.counted(2, 1, "or".ljust(65536), {1: 2})
        self.assertEqual(count(2, 1, "or".ljust(65537)), [-2])
        self.assertEqual(count(2, 1, "x" * 65537), [-2])


class Calls(Kept, unittest.TestCase):
    def call(self, handed):
        return bl_count(9, 7, 1, handed)

    def length(self, text, first):
        self.assertEqual(first, 0)
        return 11


if __name__ == "__main__":
    unittest.main()
