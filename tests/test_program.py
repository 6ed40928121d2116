"""What the document promises over the whole program: the four calls beside one another, and what they're called."""

import inspect
import random
import subprocess
import sys
import unittest

from armstold import arms
from kept import TEXTS
from samples import WRONG, bytes_of, some_arms

# Each call with what is handed in ahead of the text.
CALLS = [
    ("bl_check", ()),
    ("bl_write", (2147483647,)),
    ("bl_write", (20,)),
    ("bl_write", (-1,)),
    ("bl_draw", (9, 7, 0)),
    ("bl_draw", (6, 11, 1)),
    ("bl_draw", (0, 11, 1)),
    ("bl_count", (9, 7, 0)),
    ("bl_count", (6, 11, 1)),
    ("bl_count", (6, 1025, 1)),
]

# In a Python of its own each, so that nothing was called before.
ALONE = "from armstold import arms; print(arms.{}(*{}, {}))"


def call(name, ahead, text):
    return getattr(arms, name)(*ahead, text)


def texts():
    source = random.Random(6)
    return TEXTS + [text for text, word in WRONG[:12]] + [some_arms(source) for number in range(12)]


class Program(unittest.TestCase):
    def test_names_and_arguments(self):
        for name, parameters in [
            ("bl_check", ["text"]),
            ("bl_write", ["most", "text"]),
            ("bl_draw", ["wide", "high", "shield", "text"]),
            ("bl_count", ["wide", "high", "shield", "text"]),
        ]:
            self.assertEqual(list(inspect.signature(getattr(arms, name)).parameters), parameters)

    def test_by_name(self):
        text = bytes_of("or")
        self.assertEqual(arms.bl_check(text=text), [0, 0, 0, 1])
        self.assertEqual(arms.bl_write(text=text, most=2), [2, 111, 114])
        self.assertEqual(arms.bl_draw(text=text, shield=0, high=1, wide=2), [0, 1, 1])
        self.assertEqual(arms.bl_count(text=text, shield=0, high=1, wide=2), [0, 0, 2, 0, 0, 0, 0, 0, 0, 0, 0])

    def test_in_any_order(self):
        given = [(name, ahead, text) for name, ahead in CALLS for text in texts()]
        first = {one: call(one[0], one[1], bytes_of(one[2])) for one in given}
        source = random.Random(7)
        for turn in range(4):
            source.shuffle(given)
            for one in given:
                self.assertEqual(call(one[0], one[1], bytes_of(one[2])), first[one], one)

    def test_as_when_called_alone(self):
        some = ["quarterly(ermine,a bend\nor)and(barry of six or and vair),three roundels sable", "or, a fess"]
        for name, ahead in CALLS:
            for text in some:
                run = subprocess.run(
                    [sys.executable, "-c", ALONE.format(name, ahead, bytes_of(text))],
                    capture_output=True, text=True, check=True,
                )
                self.assertEqual(run.stdout, f"{call(name, ahead, bytes_of(text))}\n")
                self.assertEqual(run.stderr, "")

    def test_one_list_handed_to_all(self):
        for text in texts():
            handed = bytes_of(text)
            answers = [call(name, ahead, handed) for name, ahead in CALLS]
            self.assertEqual(handed, bytes_of(text))
            self.assertEqual([call(name, ahead, handed) for name, ahead in CALLS], answers)
            self.assertEqual(answers, [call(name, ahead, bytes_of(text)) for name, ahead in CALLS])
            for answer in answers:
                self.assertIsNot(answer, handed)

    def test_all_refuse_the_same_words(self):
        for text, word in WRONG:
            for name, ahead in [("bl_check", ()), ("bl_write", (0,)), ("bl_draw", (2, 3, 0)), ("bl_count", (2, 3, 1))]:
                self.assertEqual(call(name, ahead, bytes_of(text)), [-3 - word], (name, text))

    def test_what_is_written_says_the_same(self):
        for text in texts():
            answer = arms.bl_write(65536, bytes_of(text))
            if answer[0] >= 0:
                written = answer[1:]
                self.assertEqual(arms.bl_write(65536, written), answer)
                for name, ahead in CALLS:
                    self.assertEqual(call(name, ahead, written), call(name, ahead, bytes_of(text)), (name, text))


if __name__ == "__main__":
    unittest.main()
