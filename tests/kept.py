"""What every call must keep, whatever it answers; for a class of tests to stand on."""

import contextlib
import io

from samples import WORDS_2000, bytes_of, nested

TEXTS = [
    "",
    "or",
    "per pale (or, a fess argent) and gules",
    "quarterly(ermine,a bend\nor)and(barry  of six or and vair),three roundels sable",
    "or, a fess",
    "or \t",
    WORDS_2000,
    WORDS_2000 + " x",
    nested(6),
    nested(7),
    " " * 65537,
]


class Kept:
    """Beside unittest.TestCase; call(bytes) answers, length(text, first) is how long an answer is that's no refusal."""

    def answers_to(self, texts):
        return [self.call(bytes_of(text)) for text in texts]

    def test_the_list_handed_in_is_the_same_afterwards(self):
        for text in TEXTS:
            handed = bytes_of(text)
            self.call(handed)
            self.assertEqual(handed, bytes_of(text))

    def test_a_second_call_answers_what_the_first_did(self):
        first = self.answers_to(TEXTS)
        self.assertEqual(self.answers_to(TEXTS), first)
        self.assertEqual(self.answers_to(TEXTS[::-1]), first[::-1])

    def test_a_changed_answer_changes_no_later_one(self):
        for text in TEXTS:
            handed = bytes_of(text)
            answer = self.call(handed)
            before = list(answer)
            answer[0] += 1
            answer.append(7)
            self.assertEqual(handed, bytes_of(text))
            self.assertEqual(self.call(handed), before)

    def test_answers_are_lists_of_whole_numbers(self):
        for text in TEXTS:
            answer = self.call(bytes_of(text))
            self.assertIs(type(answer), list)
            self.assertEqual(len(answer), 1 if answer[0] < 0 else self.length(text, answer[0]))
            self.assertEqual({type(number) for number in answer}, {int})

    def test_nothing_is_printed(self):
        out = io.StringIO()
        with contextlib.redirect_stdout(out), contextlib.redirect_stderr(out):
            self.answers_to(TEXTS)
        self.assertEqual(out.getvalue(), "")
