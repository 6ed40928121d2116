"""Promise 3: bl_draw, its refusals and its cells, by answers worked out by hand from the document's rows.

A picture is told as its rows, each the digits of its cells; in most or is 1, gules is 3.
"""

import unittest

from armstold.arms import bl_draw
from kept import Kept
from samples import (
    CHARGES, NUMBERS_BEHIND_OF, NUMBERS_OF_CHARGES, ORDINARIES, PARTINGS, TINCTURES, WORDS_2000, WRONG, bytes_of,
    nested,
)

GREATEST = 2147483647
LEAST = -2147483648


def draw(wide, high, text, shield=0):
    return bl_draw(wide, high, shield, bytes_of(text))


class Case(unittest.TestCase):
    def drawn(self, text, *rows, shield=0):
        rows = " ".join(rows).split()
        cells = [int(digit) for row in rows for digit in row]
        self.assertEqual(draw(len(rows[0]), len(rows), text, shield), [0] + cells, (text, rows))


class Tinctures(Case):
    def test_each_but_furs(self):
        for number, tincture in enumerate(TINCTURES[:7], start=1):
            self.drawn(tincture, f"{number}" * 3, f"{number}" * 3)

    def test_ermine(self):
        plain = "222222222222"
        spots = "222522222225"
        self.drawn("ermine", plain, plain, plain, spots, spots, *[plain] * 6, spots, spots, plain)

    def test_ermine_up_to_its_spot(self):
        self.drawn("ermine", "222", "222", "222", "222", "222")
        self.drawn("ermine", "2222", "2222", "2222")
        self.drawn("ermine", "2222", "2222", "2222", "2225")

    def test_vair(self):
        even = "2222444422"
        odd = "4444222244"
        self.drawn("vair", even, even, even, even, odd, odd, odd, odd, even)

    def test_one_cell(self):
        for tincture, cell in zip(TINCTURES, "123456722"):
            self.drawn(tincture, cell)


class Partings(Case):
    def test_per_pale(self):
        self.drawn("per pale or and gules", "1133 1133")
        self.drawn("per pale or and gules", "11333 11333")
        self.drawn("per pale or and gules", "3 3")

    def test_per_fess(self):
        self.drawn("per fess or and gules", "11 11 33 33")
        self.drawn("per fess or and gules", "11 11 33 33 33")
        self.drawn("per fess or and gules", "33")

    def test_per_bend(self):
        self.drawn("per bend or and gules", "3111 3311 3331 3333")
        self.drawn("per bend or and gules", "3111 3331")
        self.drawn("per bend or and gules", "3")

    def test_per_bend_sinister(self):
        self.drawn("per bend sinister or and gules", "1113 1133 1333 3333")
        self.drawn("per bend sinister or and gules", "1113 1333")
        self.drawn("per bend sinister or and gules", "3")

    def test_per_chevron(self):
        self.drawn("per chevron or and gules", "1111 1111 1331 3333")
        # K is -16 and -32 above, 16 and 0 below.
        self.drawn("per chevron or and gules", "1111 3333")
        self.drawn("per chevron or and gules", "3")

    def test_per_saltire(self):
        self.drawn("per saltire or and gules", "3113 3333 3333 3113")
        self.drawn("per saltire or and gules", "31113 33133 33333 33133 31113")
        self.drawn("per saltire or and gules", "3113 3113")
        self.drawn("per saltire or and gules", "3")

    def test_quarterly(self):
        self.drawn("quarterly or and gules", "1133 1133 3311 3311")
        self.drawn("quarterly or and gules", "11333 33111 33111")

    def test_quarterly_without_left_columns_or_upper_rows(self):
        self.drawn("quarterly or and gules", "1")
        self.drawn("quarterly or and gules", "3 3 1 1")
        self.drawn("quarterly or and gules", "3311")

    def test_halves_that_are_arms_of_one_tincture_alone(self):
        for parting in PARTINGS:
            for wide, high in [(1, 1), (4, 3), (7, 8), (1, 6), (6, 1)]:
                expected = draw(wide, high, parting + " or and gules")
                for text in ["(or) and gules", "or and (gules)", "(or) and (gules)"]:
                    self.assertEqual(draw(wide, high, f"{parting} {text}"), expected)


# For n of a variation: which of 12 rows, or columns, are of the first tincture, from n y / 12 rounded down.
TWELVE = {
    "two": "111111333333",
    "four": "111333111333",
    "six": "113311331133",
    "eight": "113113113113",
    "ten": "113131331313",
    "twelve": "131313131313",
}

# For n of a variation, in a square of 4 by 4: n k / 8 rounded down for k from 1 on, where k is x - y + 4 for B
# and x + y + 1 for C.
SLANTING = {
    "two": [0, 0, 0, 1, 1, 1, 1],
    "four": [0, 1, 1, 2, 2, 3, 3],
    "six": [0, 1, 2, 3, 3, 4, 5],
    "eight": [1, 2, 3, 4, 5, 6, 7],
    "ten": [1, 2, 3, 5, 6, 7, 8],
    "twelve": [1, 3, 4, 6, 7, 9, 10],
}


def other(row):
    return row.replace("1", "x").replace("3", "1").replace("x", "3")


class Variations(Case):
    def test_barry(self):
        for number in NUMBERS_BEHIND_OF:
            self.drawn(f"barry of {number} or and gules", *[digit * 2 for digit in TWELVE[number]])

    def test_paly(self):
        for number in NUMBERS_BEHIND_OF:
            self.drawn(f"paly of {number} or and gules", TWELVE[number], TWELVE[number])

    def test_chequy(self):
        for number in NUMBERS_BEHIND_OF:
            row = TWELVE[number]
            self.drawn(f"chequy of {number} or and gules", *[row if first == "1" else other(row) for first in row])

    def test_chequy_rounds_each_down(self):
        # In the middle that's 0 + 0, not 4 / 3.
        self.drawn("chequy of two or and gules", "113 113 331")

    def test_bendy(self):
        for number in NUMBERS_BEHIND_OF:
            pieces = SLANTING[number]
            self.drawn(
                f"bendy of {number} or and gules",
                *["".join("13"[pieces[x - y + 3] % 2] for x in range(4)) for y in range(4)],
            )

    def test_bendy_written_out(self):
        self.drawn("bendy of two or and gules", "3333 1333 1133 1113")
        self.drawn("bendy of four or and gules", "1133 3113 3311 1331")

    def test_lozengy(self):
        for number in NUMBERS_BEHIND_OF:
            pieces = SLANTING[number]
            self.drawn(
                f"lozengy of {number} or and gules",
                *["".join("13"[(pieces[x - y + 3] + pieces[x + y]) % 2] for x in range(4)) for y in range(4)],
            )

    def test_wide_unlike_high(self):
        self.drawn("bendy of two or and gules", "1333 1113")
        self.drawn("bendy of four or and gules", "3113 1331")
        self.drawn("lozengy of two or and gules", "1331 1331")
        self.drawn("lozengy of four or and gules", "3333 3333")
        self.drawn("chequy of two or and gules", "11113333 33331111")

    def test_one_cell(self):
        # In the middle: n / 2 of bendy; twice that of lozengy.
        for number, cell in zip(NUMBERS_BEHIND_OF, "313131"):
            self.drawn(f"bendy of {number} or and gules", cell)
            for variation in ["barry", "paly", "chequy", "lozengy"]:
                self.drawn(f"{variation} of {number} or and gules", "1")

    def test_furs(self):
        self.drawn("paly of two vair and ermine", *["222244222222"] * 3, "222244222225")
        self.drawn("barry of two ermine and vair", *["222222"] * 3, "222522", *["444422"] * 4)


class Ordinaries(Case):
    def test_fess(self):
        self.drawn("or, a fess gules", "11 11 33 33 11 11")
        self.drawn("or, a fess gules", "1 1 1 3 3 3 1 1 1")
        self.drawn("or, a fess gules", "1 1")

    def test_pale(self):
        self.drawn("or, a pale gules", "113311 113311")
        self.drawn("or, a pale gules", "111333111")
        self.drawn("or, a pale gules", "11")

    def test_bend(self):
        self.drawn(
            "or, a bend gules",
            "33111111 33311111 13331111 11333111 11133311 11113331 11111333 11111133",
        )
        self.drawn("or, a bend gules", "3311 1133")

    def test_bend_sinister(self):
        self.drawn(
            "or, a bend sinister gules",
            "11111133 11111333 11113331 11133311 11333111 13331111 33311111 33111111",
        )
        self.drawn("or, a bend sinister gules", "1133 3311")

    def test_chevron(self):
        self.drawn(
            "or, a chevron gules",
            "11111111 11111111 11133111 11333311 13333331 33311333 33111133 31111113",
        )
        # K is -16 and -32 above, 16 and 0 below, and w h is 8.
        self.drawn("or, a chevron gules", "1111 3113")

    def test_cross(self):
        self.drawn("or, a cross gules", "11311 11311 33333 11311 11311")
        self.drawn("or, a cross gules", "11311 11311")
        self.drawn("or, a cross gules", "11 11 33 11 11")

    def test_saltire(self):
        self.drawn("or, a saltire gules", "31113 13131 11311 13131 31113")
        self.drawn(
            "or, a saltire gules",
            "3311111133 3331111333 1333113331 1133333311 1113333111",
            "1113333111 1133333311 1333113331 3331111333 3311111133",
        )

    def test_chief(self):
        self.drawn("or, a chief gules", "33 33 33 11 11 11 11 11 11")
        self.drawn("or, a chief gules", "3 3 1 1 1 1")
        self.drawn("or, a chief gules", "3 1")
        self.drawn("or, a chief gules", "111")

    def test_bordure(self):
        inner = "31111113"
        self.drawn("or, a bordure gules", "33333333", *[inner] * 6, "33333333")
        self.drawn("or, a bordure gules", "33333 31113 33333")

    def test_bordure_is_less_than_a_fourth(self):
        self.drawn("or, a bordure gules", "1111 1111 1111 1111")
        self.drawn("or, a bordure gules", "3" * 12, *["3" + "1" * 10 + "3"] * 3, "3" * 12)
        self.drawn("or, a bordure gules", *["3" * 13] * 2, *["33" + "1" * 9 + "33"] * 2, *["3" * 13] * 2)

    def test_bordure_goes_by_the_width_alone(self):
        self.drawn("or, a bordure gules", *["1111"] * 20)
        self.drawn("or, a bordure gules", *["3" * 20] * 3)

    def test_one_cell(self):
        for ordinary in ORDINARIES:
            self.drawn(f"or, a {ordinary} gules", "1" if ordinary in ("chief", "bordure") else "3")


# In 24 by 24 cells, where a place a b is the corner at 2 a, 2 b, with P / 12 and Q / 12 odd: how many cells a charge
# of a size has to the left and right of its place, in the rows above and below it, from the middle on.
HALF_WIDTHS = {
    "roundel": {3: [3, 3, 2], 4: [4, 4, 3, 2], 6: [6, 6, 5, 5, 4, 2]},
    "annulet": {3: [3, 3, 2], 4: [4, 4, 3, 2], 6: [6, 6, 5, 5, 4, 2]},
    "lozenge": {3: [3, 2, 1, 1], 4: [4, 3, 2, 2, 1], 6: [6, 5, 4, 4, 3, 2, 2, 1]},
    "billet": {3: [2] * 3, 4: [2] * 4, 6: [3] * 6},
    "delf": {3: [3] * 3, 4: [4] * 4, 6: [6] * 6},
    "crosslet": {3: [3, 1, 1], 4: [4, 1, 1, 1], 6: [6, 6, 2, 2, 2, 2]},
}
# As above: how much of an annulet is left out in the middle.
HOLES = {3: [1], 4: [2, 1], 6: [3, 3, 2]}

# Twice the document's twelfths, and the size.
PLACES_IN_24 = {
    1: ([(12, 12)], 6),
    2: ([(6, 12), (18, 12)], 4),
    3: ([(6, 8), (18, 8), (12, 18)], 4),
    4: ([(6, 6), (18, 6), (6, 18), (18, 18)], 4),
    5: ([(4, 4), (20, 4), (12, 12), (4, 20), (20, 20)], 3),
    6: ([(4, 6), (12, 6), (20, 6), (8, 12), (16, 12), (12, 18)], 3),
}


def put(picture, place, half_widths, digit):
    x, y = place
    for step, half_width in enumerate(half_widths):
        for row in [y - 1 - step, y + step]:
            for column in range(x - half_width, x + half_width):
                picture[row][column] = digit


def charges_in_24(charge, number):
    picture = [["1"] * 24 for row in range(24)]
    places, size = PLACES_IN_24[number]
    for place in places:
        put(picture, place, HALF_WIDTHS[charge][size], "3")
    for place in places:
        if charge == "annulet":
            put(picture, place, HOLES[size], "1")
    return ["".join(row) for row in picture]


class Charges(Case):
    def test_each_alone(self):
        for charge in CHARGES:
            self.drawn(f"or, a {charge} gules", *charges_in_24(charge, 1))

    def test_each_number_of_each(self):
        for charge in CHARGES:
            for number, word in enumerate(NUMBERS_OF_CHARGES, start=2):
                self.drawn(f"or, {word} {charge}s gules", *charges_in_24(charge, number))

    def test_one_in_twelve_by_twelve(self):
        blank = "111111111111"
        for charge, upper in {
            "roundel": [blank, "111133331111", "111333333111", "111333333111"],
            "annulet": [blank, "111133331111", "111333333111", "111331133111"],
            "lozenge": ["111113311111", "111113311111", "111133331111", "111333333111"],
            "billet": [blank] + ["111133331111"] * 3,
            "delf": [blank] + ["111333333111"] * 3,
            "crosslet": [blank, "111113311111", "111113311111", "111333333111"],
        }.items():
            self.drawn(f"or, a {charge} gules", blank, blank, *upper, *upper[::-1], blank, blank)

    def test_three_in_twelve_by_twelve(self):
        blank = "111111111111"
        for charge in ["roundel", "lozenge", "crosslet"]:
            self.drawn(
                f"or, three {charge}s gules", blank, blank,
                "113311113311 133331133331 133331133331 113311113311", blank,
                "111113311111 111133331111 111133331111 111113311111", blank,
            )
        self.drawn(
            "or, three annulets gules", blank, blank,
            "113311113311 131131131131 131131131131 113311113311", blank,
            "111113311111 111131131111 111131131111 111113311111", blank,
        )

    def test_six_in_twelve_by_twelve(self):
        blank = "111111111111"
        # Here 4 (P P + Q Q) is 8 times 144 in the four cells in the middle, and r r 9 times: nothing is left of them.
        self.drawn("or, six annulets gules", *[blank] * 12)
        self.drawn(
            "or, six roundels gules", blank, blank,
            "133113311331 133113311331", blank, "111331133111 111331133111", blank,
            "111113311111 111113311111", blank, blank,
        )

    def test_an_annulet_by_a_hair(self):
        # At the place 2 2 column 2, row 3 has P 16 and Q 4: 4 (P P + Q Q) is 1088, and r r is 1089.
        cells = draw(11, 20, "or, five annulets gules")[1:]
        self.assertEqual(cells[11 * 3:11 * 3 + 4], [3, 1, 1, 1])

    def test_size_goes_by_the_width_alone(self):
        blank = "111111111111"
        self.drawn("or, a delf gules", *[blank] * 9, *["111333333111"] * 6, *[blank] * 9)
        self.drawn("or, a delf gules", *["1" * 6 + "3" * 12 + "1" * 6] * 12)
        self.drawn("or, a roundel gules", *["1" * 6 + "3" * 12 + "1" * 6] * 4)

    def test_charges_that_overlap_are_both_covered(self):
        # In a single row: the columns 1 to 4, 7 to 10, and 4 to 7.
        self.drawn("or, three delfs gules", "133333333331")

    def test_one_cell(self):
        for charge in CHARGES:
            self.drawn(f"or, a {charge} gules", "1" if charge == "annulet" else "3")
            self.drawn(f"or, two {charge}s gules", "1")

    def test_furs(self):
        blank = "111111111111"
        self.drawn(
            "or, a delf vair", *[blank] * 3, "111244442111", *["111422224111"] * 4, "111244442111", *[blank] * 3,
        )


class OverOneAnother(Case):
    def test_in_their_order(self):
        self.drawn("or, a pale gules, a fess azure", "131 444 131")
        self.drawn("or, a fess azure, a pale gules", "131 434 131")
        self.drawn("or, a pale gules, a fess azure, a delf sable", "131 454 131")
        self.drawn("or, a delf sable, a chief vert, a pale gules", "636 131 131")

    def test_the_same_twice(self):
        self.drawn("or, a pale gules, a fess vert, a pale azure", "141 646 141")

    def test_items_over_the_items_of_arms_within(self):
        self.drawn("per pale (or, a fess azure) and gules, a pale vert", "116633 446633 116633")
        self.drawn(
            "quarterly (or, a delf azure) and gules, a pale vert",
            "116633 146633 116633 336611 336641 336611",
        )


class Halves(Case):
    def test_arms_fill_the_whole_rectangle(self):
        self.drawn("per pale (per pale or and gules) and azure", "1144")
        self.drawn("per pale azure and (per pale or and gules)", "4433")
        self.drawn("per fess (gules, a fess or) and azure", "3 3 1 4 4 4")

    def test_furs_in_them_are_counted_there(self):
        self.drawn("per pale (vair) and or", "2222411111")
        self.drawn("per pale or and (vair)", "1111144422")
        self.drawn("per pale or and vair", "1111144422")
        self.drawn("per fess or and (ermine)", "1111 1111 2222 2225 2225")


class Quarters(Case):
    def test_arms_fill_their_quarter(self):
        self.drawn("quarterly (per pale gules and azure) and (per fess sable and vert)", "34666 55344 66344")
        self.drawn("quarterly (per pale gules and azure) and or", "34111 11344 11344")
        self.drawn("quarterly or and (per fess sable and vert)", "11666 55111 66111")

    def test_where_there_are_no_left_columns_or_upper_rows(self):
        text = "quarterly (per fess gules and azure) and (per pale sable and vert)"
        self.drawn(text, "6 3 4")
        self.drawn(text, "644")
        self.drawn(text, "4")
        self.drawn("quarterly (gules) and (or)", "1 3 3")
        self.drawn("quarterly (gules) and (or)", "133")
        self.drawn("quarterly (gules) and (or)", "3")

    def test_a_quarter_without_cells_may_hold_any_arms(self):
        for field in ["lozengy of six or and vert", "chequy of ten or and vert", "per chevron or and (vair)"]:
            for item in ["a roundel or", "six annulets or", "a bordure or", "a chevron or"]:
                self.drawn(f"quarterly gules and ({field}, {item})", "3")
                self.drawn(f"quarterly gules and (quarterly ({field}, {item}) and ({field}))", "3")

    def test_within_one_another(self):
        text = "quarterly (quarterly (or) and (gules)) and azure"
        self.drawn(text, "1344 3144 4413 4431")
        self.drawn(text, "144 413 431")
        self.drawn(text, "1")

    def test_furs_are_counted_in_the_quarter_of_arms(self):
        upper = ["2222411111"] * 4 + ["4444211111"]
        self.drawn("quarterly (vair) and or", *upper, *["1111122224"] * 4, "1111144442")
        upper = ["1111122222"] * 3 + ["1111122252"] * 2
        self.drawn("quarterly or and (ermine)", *upper, *["2222211111"] * 3, *["2225211111"] * 2)

    def test_furs_are_counted_in_the_whole_for_a_tincture(self):
        upper = ["2222411111"] * 4 + ["4444211111"]
        self.drawn("quarterly vair and or", *upper, *["1111122244"] * 3, *["1111144422"] * 2)


class SixDeep(Case):
    def test_in_the_whole_rectangle(self):
        self.drawn(nested(6, "vert"), "6633 6633")
        self.drawn(nested(6, "vert, a fess or"), "6633 1133 6633")

    def test_in_quarters(self):
        # The quarters are of 16, 8, 4, 2 and 1 cell: or is where x and y are on the same side each time.
        text = "quarterly (" * 5 + "or" + ") and gules" * 5
        self.drawn(text, *["3" * y + "1" + "3" * (31 - y) for y in range(32)])


class Shield(Case):
    def test_cells_outside(self):
        whole = "1" * 8
        self.drawn("or", *[whole] * 6, "01111110", "00111100", shield=1)
        self.drawn("or", "1111 1111 1111 0110", shield=1)
        self.drawn("or", "11111 11111 11111 11111 01110", shield=1)
        self.drawn("or", *["1" * 10] * 7, "0111111110 0111111110 0001111000", shield=1)

    def test_wide_unlike_high(self):
        self.drawn("or", "11111111 01111110", shield=1)
        self.drawn("or", *["11"] * 7, "00", shield=1)
        self.drawn("or", "1", shield=1)
        self.drawn("or", "1 1 1 1", shield=1)
        self.drawn("or", "1111", shield=1)

    def test_every_number_but_0(self):
        for shield in [1, 2, 3, 255, 256, GREATEST, -1, -2, LEAST]:
            self.drawn("or", "1111 1111 1111 0110", shield=shield)
        self.drawn("or", "1111 1111 1111 1111", shield=0)

    def test_it_goes_over_items_and_furs(self):
        self.drawn("or, a bend gules, a bend sinister gules", "3113 1331 1331 0110", shield=1)
        self.drawn("ermine", *["2222"] * 3, "0220", shield=1)
        self.drawn("per pale vert and (azure, a delf or)", "6644 6614 6614 0640", shield=1)

    def test_it_is_the_whole_rectangles_alone(self):
        self.drawn("quarterly (or) and (gules)", *["11113333"] * 4, *["33331111"] * 2, "03331110 00331100", shield=1)


class Sides(Case):
    def test_of_1024(self):
        self.assertEqual(draw(1024, 1, "per pale or and gules"), [0] + [1] * 512 + [3] * 512)
        self.assertEqual(draw(1, 1024, "per fess or and gules"), [0] + [1] * 512 + [3] * 512)
        self.assertEqual(draw(1024, 1024, "per fess or and gules"), [0] + [1] * 2 ** 19 + [3] * 2 ** 19)
        self.assertEqual(draw(1024, 1023, "per fess or and gules"), [0] + [1] * (1024 * 511) + [3] * (1024 * 512))

    def test_of_1024_on_the_diagonal(self):
        # 8 |x - y| is at most 1024: |x - y| at most 128.
        cells = draw(1024, 1024, "or, a bend gules")[1:]
        for y in [0, 1, 127, 128, 129, 500, 895, 896, 1023]:
            left = max(0, y - 128)
            right = min(1024, y + 129)
            row = [1] * left + [3] * (right - left) + [1] * (1024 - right)
            self.assertEqual(cells[1024 * y:1024 * y + 1024], row)

    def test_out_of_bounds_goes_ahead(self):
        texts = ["or", nested(6), WORDS_2000] + [text for text, word in WRONG]
        for side in [0, -1, 1025, 1026, GREATEST, LEAST]:
            for text in texts:
                for shield in [0, 1]:
                    self.assertEqual(draw(side, 1, text, shield), [-2])
                    self.assertEqual(draw(1, side, text, shield), [-2])
                    self.assertEqual(draw(side, side, text, shield), [-2])


class Refused(Case):
    def test_at_each_kind_of_place(self):
        for text, word in WRONG:
            for wide, high in [(1, 1), (3, 2), (1024, 1024)]:
                for shield in [0, 1]:
                    self.assertEqual(draw(wide, high, text, shield), [-3 - word], text)

    def test_a_bracket_beyond(self):
        self.assertEqual(draw(3, 3, nested(7)), [-3 - 17])
        self.assertEqual(draw(3, 3, nested(6))[0], 0)

    def test_more_words(self):
        # No fess in two rows; C is -7, -3, 1 above and -1, 3, 7 below.
        self.drawn(WORDS_2000, "112 211")
        self.assertEqual(draw(3, 2, WORDS_2000 + ", a fess or"), [-2003])

    def test_bytes(self):
        self.assertEqual(draw(2, 1, "or".ljust(65536)), [0, 1, 1])
        self.assertEqual(draw(2, 1, "or".ljust(65537)), [-2])
        self.assertEqual(draw(2, 1, "x" * 65537), [-2])
        self.assertEqual(draw(2, 1, "o" * 65536), [-3])


class Calls(Kept, unittest.TestCase):
    def call(self, handed):
        return bl_draw(9, 7, 1, handed)

    def length(self, text, first):
        self.assertEqual(first, 0)
        return 1 + 9 * 7


if __name__ == "__main__":
    unittest.main()
