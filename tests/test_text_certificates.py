"""Promises [90] and [91]: written certificates."""

import random
import unittest

from commonground.errors import BadText, NoSuch, TooLarge
from commonground.facts.judge import accepts
from commonground.model.model import Model
from commonground.text.certificates import certificate_text, read_certificate
from tests.makers import NEVER, clause, random_model, random_steps, row

MODEL = Model((("x", 0, 4), ("y", 0, 4)))
GREAT = 10 ** 600 - 1
STEPS = (
    (row(5, (0, 1), (1, 1)), "given", "less"),
    (row(4, (0, 1)), "bound", 0),
    (row(9, (0, 2), (1, 1)), "sum", ((0, 1), (1, 1))),
)
STEPS_TEXT = "row 1*x 1*y <= 5 by given less\nrow 1*x <= 4 by bound x\nrow 2*x 1*y <= 9 by sum 0*1 1*1"


class CertificateTest(unittest.TestCase):
    def check(self, certificate, text, model=MODEL):
        self.assertEqual(certificate_text(model, certificate), text)
        self.assertEqual(read_certificate(model, text), certificate)

    def bad(self, text, line, word):
        with self.assertRaises(BadText, msg=text) as caught:
            read_certificate(MODEL, text)
        self.assertEqual((caught.exception.line, caught.exception.word), (line, word), text)

    def test_without_steps(self):
        self.check(("none", ()), "none")
        self.check(("best", (3, -4), ()), "best 3 -4")
        self.check(("best", (GREAT, -GREAT), ()), f"best {GREAT} -{GREAT}")
        self.check(("best", (0,), ()), "best 0", Model((("x", 0, 4),)))

    def test_with_steps(self):
        self.check(("none", STEPS), f"none\n{STEPS_TEXT}")
        self.check(("best", (4, 1), STEPS), f"best 4 1\n{STEPS_TEXT}")
        self.check(("none", ((NEVER, "unit", ()),)), "none\nnever by unit")

    def test_what_is_read_is_accepted(self):
        model = MODEL.copy()
        model.put("less", ("row", ((0, 1), (1, 1)), "<=", 5))
        model.aim(("max", ((0, 2), (1, 1)), 0))
        self.assertIs(accepts(model, read_certificate(model, f"best 4 1\n{STEPS_TEXT}")), True)

    def test_the_first_line(self):
        for word in ("None", "", "never", "3", "best\t3"):
            self.bad(f"{word}", 1, 0)
            self.bad(f"{word} 3 4", 1, 0)
        for word in ("x", "-0", "03", "", "9" * 601, "1*2"):
            self.bad(f"best {word} 4", 1, 1)
            self.bad(f"best 4 {word}\n{STEPS_TEXT}", 1, 2)
        self.bad("", 1, 0)

    def test_values_too_few_and_too_many(self):
        self.bad("best", 1, 1)
        self.bad("best 3", 1, 2)
        self.bad(f"best 3\n{STEPS_TEXT}", 1, 2)
        self.bad("best 3 4 5", 1, 3)
        self.bad("best 3 4 ", 1, 3)
        self.bad("none 3", 1, 1)
        self.bad("none ", 1, 1)

    def test_lines_of_steps(self):
        self.bad("none\n", 2, 0)
        self.bad("none\n\nnever by unit", 2, 0)
        self.bad("none\nnever by unit\n", 3, 0)
        self.bad("none\nnever by unit\nnever by units", 3, 2)
        self.bad("best 3 4\nnever by unit \nfoo", 2, 3)
        self.bad("best 3 4\nnever by suppose\nnever by given", 3, 3)
        self.bad(f"none\n{STEPS_TEXT}\nrow 1*w <= 3 by suppose", 5, 1)
        self.bad("none\n none", 2, 0)

    def test_errors_of_writing_in_the_order_of_the_text(self):
        great = GREAT + 1
        missing = (clause((7, "=", 1)), "suppose")
        for error, certificate in (
            (TooLarge, ("best", (0, great), (missing,))), (TooLarge, ("best", (-great, 0), ())),
            (NoSuch, ("best", (0, 0), (missing, (row(great), "suppose")))),
            (TooLarge, ("none", ((row(great), "suppose"), missing))), (NoSuch, ("none", (missing,))),
        ):
            self.assertRaises(error, certificate_text, MODEL, certificate)
        with self.assertRaises(NoSuch) as caught:
            certificate_text(MODEL, ("none", (STEPS[0], (row(1, (8, 1)), "bound", 9), missing)))
        self.assertEqual(caught.exception.what, 8)

    def test_random_certificates(self):
        rng = random.Random(90)
        read = 0
        for _ in range(150):
            model = random_model(rng)
            steps = random_steps(rng, model, rng.randint(0, 20))
            point = tuple(rng.randint(-9, 9) for _ in range(3))
            text = certificate_text(model, ("best", point, steps))
            self.check(("best", point, steps), text, model)
            self.check(("none", steps), "none" + text[len(text.split("\n")[0]):], model)
            signs = list(text)
            for _ in range(8):
                at = rng.randrange(len(signs))
                changed = signs[:at] + [rng.choice(("", " ", "\n", "0", "1", "-", "*"))] + signs[at + 1:]
                garbled = "".join(changed)
                try:
                    other = read_certificate(model, garbled)
                except BadText as error:
                    self.assertTrue(1 <= error.line <= garbled.count("\n") + 1)
                else:
                    self.assertEqual(certificate_text(model, other), garbled)
                    read += 1
        self.assertGreater(read, 50)


if __name__ == "__main__":
    unittest.main()
