"""Promise 2: bl_write, its refusals and the one form, which each text here is given in by hand."""

import unittest

from armstold.arms import bl_check, bl_write
from kept import Kept
from samples import (
    CHARGES, NUMBERS_BEHIND_OF, NUMBERS_OF_CHARGES, ORDINARIES, PARTINGS, TINCTURES, VARIATIONS, WORDS_2000, WRONG,
    bytes_of, nested,
)

GREATEST = 2147483647
LEAST = -2147483648

# Each as it is written.
FORMS = [
    "or",
    "per pale or and gules",
    "per bend sinister or and gules, a bend sinister azure",
    "azure, a fess or, three roundels argent, a chief ermine",
    "barry of twelve or and gules, a bordure vair",
    "per fess (or) and gules",
    "per fess or and (gules)",
    "quarterly (or, a delf vert) and (lozengy of two or and gules), six crosslets sable",
    "per saltire (per chevron (or) and (gules)) and (argent, a cross gules, a billet or), a pale or",
]


def write(text, most=GREATEST):
    return bl_write(most, bytes_of(text))


def apart(text):
    """The text's words, each behind one blank."""
    for sign in "(),":
        text = text.replace(sign, f" {sign} ")
    return text.split()


class Case(unittest.TestCase):
    def written(self, text, form):
        self.assertEqual(write(text), [len(form)] + bytes_of(form), text)

    def refused_at(self, text, word, most=GREATEST):
        self.assertEqual(write(text, most), [-3 - word], text)


class OneForm(Case):
    def test_number_of_bytes_first_and_then_the_bytes(self):
        self.assertEqual(write("or"), [2, 111, 114])
        self.assertEqual(
            write("or,a fess\nvair"),
            [15, 111, 114, 44, 32, 97, 32, 102, 101, 115, 115, 32, 118, 97, 105, 114],
        )
        self.assertEqual(
            write("per fess(or)and vert"),
            [22, 112, 101, 114, 32, 102, 101, 115, 115, 32, 40, 111, 114, 41, 32, 97, 110, 100, 32, 118, 101, 114, 116],
        )

    def test_what_is_written_so_stays(self):
        for form in FORMS:
            self.written(form, form)

    def test_each_tincture(self):
        for tincture in TINCTURES:
            self.written(f" {tincture}\n", tincture)

    def test_each_parting_and_form_of_half(self):
        for parting in PARTINGS:
            self.written(parting + "  or  and  vert", parting + " or and vert")
            self.written(parting + "(or)and vert", parting + " (or) and vert")
            self.written(parting + " or and( vert )", parting + " or and (vert)")
            self.written(parting + " ( or )and( vert ) ", parting + " (or) and (vert)")

    def test_each_tincture_as_a_half(self):
        for tincture in TINCTURES:
            self.written(f"per  pale {tincture} and ({tincture} )", f"per pale {tincture} and ({tincture})")

    def test_each_variation_and_number(self):
        for variation in VARIATIONS:
            for number in NUMBERS_BEHIND_OF:
                form = f"{variation} of {number} or and vair"
                self.written(form.replace(" ", "\n\n"), form)

    def test_each_ordinary_and_tincture(self):
        for ordinary in ORDINARIES:
            for tincture in TINCTURES:
                self.written(f"or ,a {ordinary}\n{tincture}", f"or, a {ordinary} {tincture}")

    def test_each_number_of_each_charge(self):
        for charge in CHARGES:
            self.written(f"or,a {charge} vert", f"or, a {charge} vert")
            for number in NUMBERS_OF_CHARGES:
                self.written(f"or,{number} {charge}s vert", f"or, {number} {charge}s vert")

    def test_items_in_their_order(self):
        self.written("or,a pale vert,a fess vert,a pale vert", "or, a pale vert, a fess vert, a pale vert")

    def test_arms_within_arms(self):
        self.written(
            "per pale(per fess(or,a delf vert)and(vair),a pale or)and(quarterly or and(vert)),a bend or",
            "per pale (per fess (or, a delf vert) and (vair), a pale or) and (quarterly or and (vert)), a bend or",
        )

    def test_arms_that_say_the_same_are_written_in_their_own_words(self):
        self.written("per pale (or) and or", "per pale (or) and or")
        self.written("or, two delfs or, two delfs or", "or, two delfs or, two delfs or")


class Blanks(Case):
    def test_one_blank_between_all_words(self):
        for form in FORMS:
            self.written(" ".join(apart(form)), form)

    def test_both_sorts_in_rows_at_the_start_and_at_the_end(self):
        for form in FORMS:
            for blank in ["\n", "  ", "\n\n", " \n", "\n ", "  \n\n  "]:
                self.written(blank.join(apart(form)), form)
                self.written(blank + blank.join(apart(form)) + blank, form)
                self.written(blank + form, form)
                self.written(form + blank, form)

    def test_none_where_none_is_needed(self):
        for form in FORMS:
            self.written(form.replace(", ", ",").replace(" (", "(").replace(") ", ")"), form)

    def test_around_each_sign(self):
        for before in ["", " ", "\n", "  "]:
            for behind in ["", " ", "\n", "  "]:
                self.written(f"or{before},{behind}a fess or", "or, a fess or")
                self.written(f"per pale{before}({behind}or) and or", "per pale (or) and or")
                self.written(f"per pale (or{before}){behind}and or", "per pale (or) and or")
                self.written(f"per pale or and (or{before}){behind}", "per pale or and (or)")
                self.written(f"per pale or and (or){before},{behind}a fess or", "per pale or and (or), a fess or")
                self.written(f"quarterly or and (quarterly or and (or{before}){behind})",
                             "quarterly or and (quarterly or and (or))")

    def test_longer_than_it_came(self):
        came = "quarterly(or,a fess or)and(or,a fess or),a fess or"
        form = "quarterly (or, a fess or) and (or, a fess or), a fess or"
        self.assertEqual(len(form) - len(came), 6)
        self.written(came, form)

    def test_shorter_than_it_came(self):
        came = "\n quarterly ( or , a fess or ) and ( or , a fess or ) , a fess or \n"
        form = "quarterly (or, a fess or) and (or, a fess or), a fess or"
        self.assertEqual(len(came) - len(form), 11)
        self.written(came, form)


class Most(Case):
    def test_just_as_many_and_one_fewer(self):
        for form in FORMS:
            for came in [form, " ".join(apart(form)), form.replace(", ", ",").replace(" (", "(").replace(") ", ")")]:
                whole = [len(form)] + bytes_of(form)
                self.assertEqual(write(came, len(form)), whole, came)
                self.assertEqual(write(came, len(form) + 1), whole, came)
                self.assertEqual(write(came, len(form) - 1), [-1], came)

    def test_it_is_the_written_form_that_is_measured(self):
        self.assertEqual(write("or,a fess or", 12), [-1])
        self.assertEqual(write("or,a fess or", 13)[0], 13)
        self.assertEqual(write("   or   ", 2), [2, 111, 114])

    def test_none_and_one_and_the_greatest(self):
        for form in FORMS:
            self.assertEqual(write(form, 0), [-1])
            self.assertEqual(write(form, 1), [-1])
            self.assertEqual(write(form, GREATEST), [len(form)] + bytes_of(form))

    def test_below_0_goes_ahead(self):
        for most in [-1, -2, -1000, LEAST]:
            for form in FORMS:
                self.assertEqual(write(form, most), [-2])
            for text, word in WRONG:
                self.assertEqual(write(text, most), [-2])

    def test_what_is_wrong_with_the_text_goes_ahead_of_too_long(self):
        for most in [0, 1, 2]:
            for text, word in WRONG:
                self.refused_at(text, word, most)


class Refused(Case):
    def test_at_each_kind_of_place(self):
        for text, word in WRONG:
            self.refused_at(text, word)

    def test_each_form_cut_short_or_with_a_word_put_in(self):
        # Which word is wrong there is promise 1, which has its own tests.
        for form in FORMS:
            words = apart(form)
            for place in range(len(words) + 1):
                for text in [words[:place], words[:place] + ["x"] + words[place:], words[:place] + ["("]]:
                    answer = bl_check(bytes_of(" ".join(text)))
                    if answer[0] < 0:
                        self.assertEqual(write(" ".join(text)), answer, text)
                        self.assertEqual(write(" ".join(text), 0), answer, text)

    def test_other_bytes(self):
        for byte in list(range(97)) + list(range(123, 256)):
            if byte not in (10, 32, 40, 41, 44):
                self.assertEqual(bl_write(GREATEST, [111, 114, byte]), [-3])
                self.assertEqual(bl_write(GREATEST, [111, 114, 32, byte]), [-4])


class Lengths(Case):
    def test_six_deep(self):
        form = nested(6, "or, a fess vert")
        self.written(form, form)
        self.written(" ".join(apart(form)), form)
        self.written(form.replace(" (", "(").replace(") ", ")"), form)

    def test_a_bracket_beyond(self):
        self.refused_at(nested(7), 2 + 5 * 3)
        self.refused_at(nested(7), 2 + 5 * 3, 0)

    def test_two_thousand_words(self):
        self.assertEqual(len(apart(WORDS_2000)), 2000)
        self.written(WORDS_2000, WORDS_2000)
        self.written(WORDS_2000.replace(", ", ","), WORDS_2000)
        self.written("\n".join(apart(WORDS_2000)), WORDS_2000)
        self.assertEqual(write(WORDS_2000, len(WORDS_2000))[0], len(WORDS_2000))
        self.assertEqual(write(WORDS_2000, len(WORDS_2000) - 1), [-1])

    def test_more_words(self):
        for word in [",", "or", "(", ")", "x", "\t", ", a fess gules"]:
            self.refused_at(WORDS_2000 + " " + word, 2000)
            self.refused_at(WORDS_2000 + " " + word, 2000, 0)

    def test_65536_bytes(self):
        self.written("or".ljust(65536), "or")
        self.written("or".rjust(65536, "\n"), "or")
        self.written("or" + "\n" * 65519 + ",a fess argent ", "or, a fess argent")
        self.written(WORDS_2000.ljust(65536), WORDS_2000)
        self.refused_at("o" * 65536, 0)
        self.refused_at(" " * 65536, 0)

    def test_more_than_65536_bytes(self):
        for most in [0, 2, GREATEST, -1]:
            self.assertEqual(write("or".ljust(65537), most), [-2])
            self.assertEqual(write("x" * 65537, most), [-2])


class Calls(Kept, unittest.TestCase):
    def call(self, handed):
        return bl_write(GREATEST, handed)

    def length(self, text, first):
        return 1 + first


class CallsTooSmall(Kept, unittest.TestCase):
    def call(self, handed):
        return bl_write(10, handed)

    def length(self, text, first):
        return 1 + first


if __name__ == "__main__":
    unittest.main()
