"""Promise 1: bl_check, its refusals and its three numbers, by answers worked out by hand."""

import unittest

from armstold.arms import bl_check
from kept import Kept
from samples import CHARGES, ORDINARIES, PARTINGS, TINCTURES, VARIATIONS, WORDS_2000, WRONG, bytes_of, nested

METALS = TINCTURES[:2]
COLOURS = TINCTURES[2:7]


def check(text):
    return bl_check(bytes_of(text))


class Case(unittest.TestCase):
    def answers(self, text, expected):
        self.assertEqual(check(text), expected, text)

    def refused_at(self, text, word):
        self.assertEqual(check(text), [-3 - word], text)


class Fields(Case):
    def test_each_tincture(self):
        for tincture in TINCTURES:
            self.answers(tincture, [0, 0, 0, 1])

    def test_each_parting(self):
        for parting in PARTINGS:
            self.answers(parting + " or and gules", [0, 0, 0, 1])

    def test_each_tincture_in_each_half(self):
        for tincture in TINCTURES:
            self.answers(f"per pale {tincture} and or", [0, 0, 0, 1])
            self.answers(f"per pale or and {tincture}", [0, 0, 0, 1])

    def test_each_parting_with_arms_in_each_half(self):
        for parting in PARTINGS:
            self.answers(parting + " (or) and gules", [0, 0, 0, 2])
            self.answers(parting + " or and (gules)", [0, 0, 0, 2])
            self.answers(parting + " (or) and (gules)", [0, 0, 0, 2])

    def test_each_variation_with_each_number(self):
        for variation in VARIATIONS:
            for number in ["two", "four", "six", "eight", "ten", "twelve"]:
                self.answers(f"{variation} of {number} or and gules", [0, 0, 0, 1])

    def test_each_tincture_of_a_variation(self):
        for tincture in TINCTURES:
            self.answers(f"barry of six {tincture} and or", [0, 0, 0, 1])
            self.answers(f"barry of six or and {tincture}", [0, 0, 0, 1])


class Items(Case):
    def test_each_ordinary_and_tincture(self):
        for ordinary in ORDINARIES:
            for tincture in TINCTURES:
                self.answers(f"ermine, a {ordinary} {tincture}", [0, 1, 0, 1])

    def test_each_charge_and_tincture(self):
        for charge in CHARGES:
            for tincture in TINCTURES:
                self.answers(f"vair, a {charge} {tincture}", [0, 1, 0, 1])

    def test_each_number_of_each_charge_is_one_item(self):
        for charge in CHARGES:
            for number in ["two", "three", "four", "five", "six"]:
                self.answers(f"azure, {number} {charge}s or", [0, 1, 0, 1])

    def test_items_are_counted_within_too(self):
        self.answers("azure, a fess or, three roundels or, a chief argent", [0, 3, 0, 1])
        self.answers("per pale (azure, a fess or) and (gules, a bend or, a delf or)", [0, 3, 0, 2])
        self.answers("per pale (azure, a fess or) and gules, a bend or, a delf or", [0, 3, 0, 2])

    def test_items_lie_on_every_form_of_field(self):
        for parting in PARTINGS:
            self.answers(parting + " or and gules, a cross azure", [0, 1, 0, 1])
        for variation in VARIATIONS:
            self.answers(variation + " of ten or and gules, two delfs azure", [0, 1, 0, 1])


class Offending(Case):
    def test_metal_on_metal_and_colour_on_colour(self):
        for sort in [METALS, COLOURS]:
            for ground in sort:
                for tincture in sort:
                    self.answers(f"{ground}, a fess {tincture}", [0, 1, 1, 1])
                    self.answers(f"{ground}, a roundel {tincture}", [0, 1, 1, 1])
                    self.answers(f"{ground}, six billets {tincture}", [0, 1, 1, 1])

    def test_metal_on_colour_and_colour_on_metal(self):
        for metal in METALS:
            for colour in COLOURS:
                self.answers(f"{metal}, a fess {colour}", [0, 1, 0, 1])
                self.answers(f"{colour}, two delfs {metal}", [0, 1, 0, 1])

    def test_each_ordinary_but_chief_and_bordure(self):
        for ordinary in ORDINARIES:
            offending = 0 if ordinary in ("chief", "bordure") else 1
            self.answers(f"or, a {ordinary} argent", [0, 1, offending, 1])
            self.answers(f"gules, a {ordinary} vert", [0, 1, offending, 1])

    def test_each_charge(self):
        for charge in CHARGES:
            self.answers(f"argent, a {charge} or", [0, 1, 1, 1])
            self.answers(f"sable, five {charge}s azure", [0, 1, 1, 1])

    def test_furs_never(self):
        for fur in ["ermine", "vair"]:
            for tincture in TINCTURES:
                self.answers(f"{fur}, a fess {tincture}", [0, 1, 0, 1])
                self.answers(f"{tincture}, a fess {fur}", [0, 1, 0, 1])

    def test_fields_that_are_not_one_tincture_alone_never(self):
        for parting in PARTINGS:
            self.answers(parting + " or and or, a fess or", [0, 1, 0, 1])
            self.answers(parting + " (or) and (or), a fess or", [0, 1, 0, 2])
        for variation in VARIATIONS:
            self.answers(variation + " of two gules and gules, two delfs gules", [0, 1, 0, 1])

    def test_what_came_before_does_not_count(self):
        self.answers("azure, a fess or, a roundel or", [0, 2, 0, 1])
        self.answers("azure, a fess or, a roundel gules", [0, 2, 1, 1])

    def test_only_those_that_offend_are_counted(self):
        self.answers("or, a fess gules, a pale argent, a chief argent, two delfs or, a cross vair", [0, 5, 2, 1])

    def test_each_item_is_held_to_its_own_arms_field(self):
        self.answers("per pale (or, a fess argent) and (gules, a fess argent)", [0, 2, 1, 2])
        self.answers("quarterly (or, a fess argent) and (gules, a fess azure), a bend or", [0, 3, 2, 2])
        self.answers("per pale (per fess or and or, a fess or) and (or, a pale or)", [0, 2, 1, 2])
        self.answers("per pale (per fess (gules, a delf vert) and or, a fess or) and or", [0, 2, 1, 3])


class Depth(Case):
    def test_up_to_six(self):
        for depth in range(1, 7):
            self.answers(nested(depth), [0, 0, 0, depth])

    def test_items_at_the_deepest_count(self):
        self.answers(nested(6, "or, a fess argent, a pale vert"), [0, 2, 1, 6])

    def test_a_bracket_beyond(self):
        self.refused_at(nested(7), 2 + 5 * 3)
        self.refused_at(nested(8), 2 + 5 * 3)

    def test_a_bracket_beyond_in_the_second_half(self):
        self.answers(nested(6, "quarterly or and gules"), [0, 0, 0, 6])
        self.refused_at(nested(6, "quarterly or and (gules)"), 15 + 3)
        self.refused_at(nested(6, "quarterly (or) and gules"), 15 + 1)
        self.refused_at(nested(6, "per bend sinister (or) and gules"), 15 + 3)

    def test_the_deepest_half_counts(self):
        self.answers("per pale (or) and (per fess (or) and gules)", [0, 0, 0, 3])
        self.answers("per pale (per fess (or) and gules) and (or)", [0, 0, 0, 3])

    def test_arms_beside_one_another_are_not_deeper(self):
        deep_left = nested(5)
        self.answers(f"per pale ({deep_left}) and ({deep_left})", [0, 0, 0, 6])
        both = "or"
        for depth in range(2, 7):
            both = f"quarterly ({both}) and ({both})"
            self.answers(both, [0, 0, 0, depth])
        self.refused_at(f"quarterly ({both}) and ({both})", 1 + 5 * 2)


class Blanks(Case):
    def test_texts_of_no_word(self):
        for text in ["", " ", "\n", " \n\n  \n", " " * 65536, "\n" * 65536]:
            self.assertEqual(check(text), [-3])

    def test_both_sorts_in_rows_at_the_start_and_at_the_end(self):
        self.answers("  \n or \n\n , \n a  \n\n fess   argent \n\n ", [0, 1, 1, 1])
        self.answers("\nor\n", [0, 0, 0, 1])
        self.answers(" or ", [0, 0, 0, 1])

    def test_a_line_feed_parts_words(self):
        self.answers("or,a\nbend\nsinister\nargent", [0, 1, 1, 1])

    def test_signs_touch_words_without_a_blank(self):
        self.answers("per pale(or,a fess argent)and(gules,a pale or),a bend vair", [0, 3, 1, 2])
        self.answers("per pale ( or , a fess argent ) and ( gules , a pale or ) , a bend vair", [0, 3, 1, 2])
        self.answers("quarterly(per fess(or)and(gules))and or", [0, 0, 0, 3])

    def test_signs_that_touch_one_another_are_words_each(self):
        self.refused_at("or,,a fess or", 2)
        self.refused_at("per pale((or", 3)
        self.refused_at("per pale (or))", 5)
        self.refused_at("()", 0)

    def test_words_that_no_blank_parts_are_one(self):
        self.refused_at("perpale or and gules", 0)
        self.refused_at("or, a bendsinister argent", 3)
        self.refused_at("or, afess argent", 2)

    def test_a_word_that_a_blank_parts_is_two(self):
        self.refused_at("o r", 0)
        self.refused_at("or, a fe ss argent", 3)


class Sinister(Case):
    def test_bend_with_and_without(self):
        self.answers("per bend or and gules, a bend azure", [0, 1, 0, 1])
        self.answers("per bend sinister or and gules, a bend sinister azure", [0, 1, 0, 1])
        self.answers("per bend sinister (or) and gules", [0, 0, 0, 2])

    def test_behind_others(self):
        for word in ["pale", "fess", "chevron", "saltire"]:
            self.refused_at(f"per {word} sinister or and gules", 2)
        for word in ["fess", "pale", "chevron", "cross", "saltire", "chief", "bordure", "roundel"]:
            self.refused_at(f"or, a {word} sinister gules", 4)
        self.refused_at("quarterly sinister or and gules", 1)
        self.refused_at("bendy sinister of six or and gules", 1)

    def test_twice_or_alone(self):
        self.refused_at("per bend sinister sinister or and gules", 3)
        self.refused_at("or, a bend sinister sinister gules", 5)
        self.refused_at("per sinister or and gules", 1)
        self.refused_at("or, a sinister gules", 3)
        self.refused_at("sinister", 0)


class Numbers(Case):
    def test_behind_of(self):
        for number in ["three", "five", "a", "one", "seven", "eleven"]:
            self.refused_at(f"barry of {number} or and gules", 2)

    def test_of_charges(self):
        for number in ["eight", "ten", "twelve", "one", "seven"]:
            self.refused_at(f"or, {number} roundels gules", 2)

    def test_of_ordinaries(self):
        for ordinary in ["fess", "pale", "bend", "chief", "crosses"]:
            self.refused_at(f"or, two {ordinary} gules", 3)

    def test_name_with_and_without_s(self):
        for charge in CHARGES:
            self.refused_at(f"or, a {charge}s gules", 3)
            self.refused_at(f"or, two {charge} gules", 3)


class Refused(Case):
    def test_at_each_kind_of_place(self):
        for text, word in WRONG:
            self.refused_at(text, word)

    def test_where_a_field_stands(self):
        for word in ["a", "and", "of", "(", ")", ",", "sinister", "pale", "fess", "two", "roundel", "x", "orr", "o"]:
            self.refused_at(word, 0)
            self.refused_at(f"per pale ({word}", 3)

    def test_behind_per(self):
        for word in ["cross", "chief", "bordure", "quarterly", "barry", "or", "(", ")", ",", "per", "x"]:
            self.refused_at(f"per {word} or and gules", 1)

    def test_where_a_half_stands(self):
        for word in ["per", "quarterly", "barry", "and", ")", ",", "a", "x"]:
            self.refused_at(f"per fess {word}", 2)
            self.refused_at(f"per fess or and {word}", 4)
            self.refused_at(f"quarterly {word}", 1)

    def test_where_and_stands(self):
        for word in ["or", "a", "of", "(", ")", ",", "x"]:
            self.refused_at(f"per fess or {word}", 3)
            self.refused_at(f"quarterly (or) {word}", 4)
            self.refused_at(f"barry of six or {word}", 4)

    def test_where_of_stands(self):
        for word in ["or", "and", "six", "(", ")", ",", "x"]:
            self.refused_at(f"chequy {word} six or and gules", 1)

    def test_where_a_tincture_stands_alone(self):
        for word in ["(", ")", ",", "and", "per", "barry", "six", "x"]:
            self.refused_at(f"chequy of six {word}", 3)
            self.refused_at(f"chequy of six or and {word}", 5)
            self.refused_at(f"or, a fess {word}", 4)
            self.refused_at(f"or, a roundel {word}", 4)
            self.refused_at(f"or, two roundels {word}", 4)

    def test_where_an_item_stands(self):
        for word in ["fess", "roundels", "or", "and", "of", "(", ")", ",", "an", "x"]:
            self.refused_at(f"or, {word}", 2)

    def test_behind_a(self):
        for word in ["two", "or", "a", "(", ")", ",", "x", "crossle", "barry", "quarterly"]:
            self.refused_at(f"or, a {word}", 3)

    def test_where_a_bracket_closes(self):
        for word in ["or", "and", "(", "a", "x"]:
            self.refused_at(f"per pale (or {word}", 4)
            self.refused_at(f"per pale (or, a fess gules {word}", 8)

    def test_behind_the_end(self):
        for word in ["or", "and", "(", ")", "a", "per", "x"]:
            self.refused_at(f"or {word}", 1)
            self.refused_at(f"or, a fess gules {word}", 5)
            self.refused_at(f"per pale or and gules {word}", 5)
            self.refused_at(f"per pale (or) and (gules) {word}", 9)
            self.refused_at(f"barry of six or and gules {word}", 6)

    def test_a_text_that_ends_too_early(self):
        whole = (
            "per bend sinister ( or , a fess argent , two roundels gules ) and "
            "( barry of six or and gules ) , a bend sinister azure"
        ).split()
        # Ahead of the last comma the arms may end too.
        ends = [len(whole) - 5, len(whole)]
        for end in range(len(whole)):
            if end not in ends:
                self.refused_at(" ".join(whole[:end]), end)
        for end in ends:
            self.assertEqual(check(" ".join(whole[:end]))[0], 0)

    def test_the_first_wrong_word_is_told(self):
        self.refused_at("or x y z", 1)
        self.refused_at("or, a x y", 3)


class OtherBytes(Case):
    def other_bytes(self):
        known = list(range(97, 123)) + [10, 32, 40, 41, 44]
        return [chr(byte) for byte in range(256) if byte not in known]

    def test_alone(self):
        for other in self.other_bytes():
            self.refused_at(other, 0)
            self.refused_at("or " + other, 1)
            self.refused_at("or, a fess " + other + " gules", 4)

    def test_within_a_word_at_its_start_and_at_its_end(self):
        for other in self.other_bytes():
            for word in [f"g{other}ules", f"{other}gules", f"gules{other}", f"or{other}gules"]:
                self.refused_at(word, 0)
                self.refused_at(f"or, a fess {word}", 4)

    def test_signs_beside_them_stay_words_of_their_own(self):
        self.refused_at("per pale (or,\t) and or", 5)
        self.refused_at("per pale(\tor) and or", 3)
        self.refused_at("or,.", 2)

    def test_words_around_them_are_one_word(self):
        self.refused_at("per pale or and gules a-fess-or x", 5)
        self.refused_at("per\tpale or", 0)

    def test_one_behind_a_wrong_word_is_not_told(self):
        self.refused_at("or x \t", 1)

    def test_capitals_are_other_bytes(self):
        self.refused_at("Or", 0)
        self.refused_at("or, a Fess gules", 3)


class Lengths(Case):
    def test_two_thousand_words(self):
        self.answers(WORDS_2000, [0, 499, 3, 1])

    def test_more_words(self):
        self.answers("or" + ", a fess gules" * 499, [0, 499, 0, 1])
        self.refused_at("or" + ", a fess gules" * 500, 2000)
        self.refused_at("or" + ", a fess gules" * 501, 2000)
        for word in [",", "or", "(", ")", "x", "\t", ", a fess gules"]:
            self.refused_at(WORDS_2000 + " " + word, 2000)

    def test_the_last_word_within_arms_is_one_too_many(self):
        text = "per pale (" + WORDS_2000[:-len(", a bend sinister argent")] + ") and or"
        self.assertEqual(len(text.replace(",", " , ").replace("(", " ( ").replace(")", " ) ").split()), 2001)
        self.refused_at(text, 2000)

    def test_a_wrong_word_ahead_of_the_one_too_many(self):
        self.refused_at("or or" + ", a fess gules" * 600, 1)
        self.refused_at("or" + ", a fess gules" * 499 + ", a fess fess" * 2, 1 + 4 * 499 + 3)
        self.refused_at("(" * 3000, 0)
        self.refused_at("x " * 2500, 0)

    def test_two_thousand_words_that_end_too_early(self):
        self.refused_at("or" + ", a fess gules" * 499 + ", a fess", 2000)

    def test_65536_bytes(self):
        for text in ["or".ljust(65536), "or".rjust(65536), "or" + "\n" * 65519 + ",a fess argent "]:
            self.assertEqual(len(text), 65536)
            self.assertEqual(check(text)[0], 0)
        self.assertEqual(check("or" + "\n" * 65519 + ",a fess argent "), [0, 1, 1, 1])
        self.assertEqual(check("or" + " " * 65533 + "x"), [-4])
        self.assertEqual(check("o" * 65536), [-3])
        self.assertEqual(check("or" + "(" * 65534), [-4])
        self.assertEqual(check("per pale" + "(" * 65528), [-6])
        self.assertEqual(check("or" + ",a fess or" * 6553 + " " * 4), [-2003])
        self.assertEqual(bl_check([255] * 65536), [-3])

    def test_more_than_65536_bytes(self):
        self.assertEqual(check("or".ljust(65537)), [-2])
        self.assertEqual(check("x" * 65537), [-2])
        self.assertEqual(check(" " * 65537), [-2])


class Calls(Kept, unittest.TestCase):
    def call(self, handed):
        return bl_check(handed)

    def length(self, text, first):
        return 4


if __name__ == "__main__":
    unittest.main()
