"""Promises [89] and [91]: written facts and steps."""

import random
import unittest

from commonground.errors import BadText, NoSuch, TooLarge
from commonground.model.model import Model
from commonground.text.steps import fact_text, read_fact, read_step, step_text
from tests.makers import NEVER, clause, random_fact, random_model, random_steps, row

MODEL = Model((("x", 0, 4), ("y", 0, 4), ("z", 0, 4), ("by", 0, 1), ("or", 0, 1)))
GREAT = 10 ** 600 - 1

FACTS = (
    (row(7, (0, 2), (2, -3)), "row 2*x -3*z <= 7"),
    (row(0), "row <= 0"),
    (row(-GREAT, (1, GREAT)), f"row {GREAT}*y <= -{GREAT}"),
    (row(1, (3, 1), (4, 1)), "row 1*by 1*or <= 1"),
    (NEVER, "never"),
    (clause((1, "=", 2)), "any y = 2"),
    (clause((1, "!=", -2), (0, "<=", GREAT), (1, "!=", -2)), f"any y != -2 or x <= {GREAT} or y != -2"),
    (clause((3, ">=", 0), (4, "=", 1), (3, "<=", 5)), "any by >= 0 or or = 1 or by <= 5"),
)

F = row(3, (0, 1))
START = "row 1*x <= 3 by"

RESTS = (
    (("bound", 0), "bound x"),
    (("bound", 4), "bound or"),
    (("given", "c"), "given c"),
    (("given", "by"), "given by"),
    (("suppose",), "suppose"),
    (("sum", ()), "sum"),
    (("sum", ((3, 4),)), "sum 3*4"),
    (("sum", ((3, 4), (-1, 0), (3, -GREAT))), f"sum 3*4 -1*0 3*-{GREAT}"),
    (("divide", 0, 2), "divide 0 2"),
    (("divide", -7, 0), "divide -7 0"),
    (("look", "c", ()), "look c"),
    (("look", "nosuchlabel", (4, 0, 4, -1, GREAT)), f"look nosuchlabel 4 0 4 -1 {GREAT}"),
    (("apart", "c1"), "apart c1"),
    (("then", "c", 8), "then c 8"),
    (("unit", ()), "unit"),
    (("unit", (3, -9, 3)), "unit 3 -9 3"),
    (("cases", 4, 5, 0, -1), "cases 4 5 0 -1"),
    (("absurd", 5), "absurd 5"),
    (("weaken", -GREAT), f"weaken -{GREAT}"),
)


class TextTest(unittest.TestCase):
    def bad(self, read, text, word):
        with self.assertRaises(BadText, msg=text) as caught:
            read(MODEL, text)
        self.assertEqual((caught.exception.line, caught.exception.word), (1, word), text)

    def replaced(self, read, line, index, words):
        for word in words:
            parts = line.split(" ")
            parts[index] = word
            self.bad(read, " ".join(parts), index)

    def garbled(self, rng, text):
        signs = list(text)
        at = rng.randrange(len(signs))
        signs[at:at + rng.randint(0, 2)] = rng.choice(("", " ", "\n", "0", "1", "-", "x", "*", "x1", "<=", "by"))
        return "".join(signs)


class FactTest(TextTest):
    def test_each_form(self):
        for fact, text in FACTS:
            self.assertEqual(fact_text(MODEL, fact), text)
            self.assertEqual(read_fact(MODEL, text), fact)

    def test_each_word(self):
        self.replaced(read_fact, "never", 0, ("Never", "", "foo", "by", "row\n", "never\n", "%"))
        line = "row 2*x -3*z <= 7"
        self.replaced(read_fact, line, 0, ("rows", "x", ""))
        self.replaced(read_fact, line, 1, ("0*x", "-0*x", "2*w", "2*", "*x", "x", "", "2*x\n", "02*x", "2*5"))
        self.replaced(read_fact, line, 2, ("0*z", "-3*x", "3*w", "7", ""))
        self.replaced(read_fact, line, 3, (">=", "=", "!=", "1*y", "by", ""))
        self.replaced(read_fact, line, 4, ("x", "-0", "07", "", "9" * 601, "7\n"))
        line = "any y = 2 or x <= 3"
        self.replaced(read_fact, line, 0, ("anys", "or"))
        self.replaced(read_fact, line, 1, ("w", "1*y", "", "2"))
        self.replaced(read_fact, line, 2, ("==", "y", ""))
        self.replaced(read_fact, line, 3, ("x", "-0", "", "9" * 601))
        self.replaced(read_fact, line, 4, ("by", "and", "", "x"))
        self.replaced(read_fact, line, 5, ("w", "", "or\n"))

    def test_missing_and_too_many(self):
        for fact, text in FACTS:
            words = text.split(" ")
            for word in ("x", "", "3", "by", "suppose"):
                self.bad(read_fact, f"{text} {word}", len(words))
            for k in range(1, len(words)):
                if words[0] == "row" or words[k] != "or" or words[k - 1] == "or":
                    self.bad(read_fact, " ".join(words[:k]), k)
        self.bad(read_fact, "any", 1)
        self.bad(read_fact, "any y = 2 or", 5)
        self.bad(read_fact, "", 0)

    def test_more_than_600_digits(self):
        for fact in (row(GREAT + 1), row(-GREAT - 1), row(0, (0, GREAT + 1)), clause((0, "=", GREAT + 1))):
            self.assertRaises(TooLarge, fact_text, MODEL, fact)
            self.assertRaises(TooLarge, step_text, MODEL, (fact, "suppose"))

    def test_unknowns_that_the_model_does_not_have(self):
        for what, fact in (
            (5, row(0, (5, 1))), (-1, row(0, (-1, 1), (9, 1))), (7, row(0, (0, 1), (7, 1), (8, 1))),
            (9, clause((9, "=", 1), (8, "=", 1))), (8, clause((0, "=", 1), (8, "=", 1), (9, "=", 1))),
        ):
            with self.assertRaises(NoSuch) as caught:
                fact_text(MODEL, fact)
            self.assertEqual(caught.exception.what, what)

    def test_errors_in_the_order_of_the_text(self):
        great = GREAT + 1
        for error, fact in (
            (NoSuch, row(great, (5, 1))), (TooLarge, row(great, (5, great))), (NoSuch, row(0, (5, 1), (6, great))),
            (TooLarge, row(0, (0, great), (6, 1))), (NoSuch, clause((5, "=", great))),
            (TooLarge, clause((0, "=", great), (5, "=", 0))), (NoSuch, clause((5, "=", 0), (0, "=", great))),
        ):
            self.assertRaises(error, fact_text, MODEL, fact)

    def test_random_facts(self):
        rng = random.Random(89)
        read = 0
        for _ in range(2000):
            fact = random_fact(rng, [0, 1, 2, 3, 4])
            text = fact_text(MODEL, fact)
            self.assertEqual(read_fact(MODEL, text), fact)
            garbled = self.garbled(rng, text)
            try:
                other = read_fact(MODEL, garbled)
            except BadText as error:
                self.assertEqual(error.line, 1)
                self.assertLessEqual(error.word, len(garbled.split(" ")))
            else:
                self.assertEqual(fact_text(MODEL, other), garbled)
                read += 1
        self.assertGreater(read, 100)


class StepTest(TextTest):
    def test_every_rule(self):
        for rest, words in RESTS:
            self.assertEqual(step_text(MODEL, (F,) + rest), f"{START} {words}")
            self.assertEqual(read_step(MODEL, f"{START} {words}"), (F,) + rest)
        self.assertEqual(len({rest[0] for rest, _ in RESTS}), 12)

    def test_every_fact(self):
        for fact, text in FACTS:
            for rest, words in RESTS:
                self.assertEqual(read_step(MODEL, f"{text} by {words}"), (fact,) + rest)
                self.assertEqual(step_text(MODEL, (fact,) + rest), f"{text} by {words}")

    def test_the_fact_and_what_follows_it(self):
        line = f"{START} suppose"
        self.replaced(read_step, line, 0, ("rows", "", "never"[:-1]))
        self.replaced(read_step, line, 1, ("0*x", "1*w", "x"))
        self.replaced(read_step, line, 2, ("<", ">=", ""))
        self.replaced(read_step, line, 3, ("x", "00", ""))
        self.replaced(read_step, line, 4, ("By", "or", "", "suppose", "by\n"))
        self.replaced(read_step, line, 5, ("Suppose", "by", "", "guess", "suppose\n"))
        self.replaced(read_step, "never by suppose", 1, ("or", "", "suppose"))
        line = "any x = 1 or y = 2 by suppose"
        self.replaced(read_step, line, 4, ("and", "", "x"))
        self.replaced(read_step, line, 8, ("and", "", "x"))
        self.bad(read_step, "any x = 1 or by suppose", 6)
        for text in ("never", "any x = 1", "row <= 1", "never by"):
            self.bad(read_step, text, len(text.split(" ")))

    def test_words_of_each_rule(self):
        no_numbers = ("x", "-0", "01", "", "1*2", "+1", "9" * 601, "3\n")
        no_labels = ("X", "1c", "", "a" * 21, "c*", "c\n")
        for words, wrong in (
            ("bound x", (("w", "", "X", "0", "x\n"),)),
            ("given c", (no_labels,)),
            ("sum 3*4 1*2", (("3", "3*", "*4", "3*x", "3*4*5", "", "03*4", "3*-0", f"3*{'9' * 601}", "3*4\n"),) * 2),
            ("divide 1 2", (no_numbers, no_numbers)),
            ("look c 1 2", (no_labels, no_numbers, no_numbers)),
            ("apart c", (no_labels,)),
            ("then c 3", (no_labels, no_numbers)),
            ("unit 1 2", (no_numbers, no_numbers)),
            ("cases 1 2 3 4", (no_numbers,) * 4),
            ("absurd 1", (no_numbers,)),
            ("weaken 1", (no_numbers,)),
        ):
            for k, some in enumerate(wrong):
                self.replaced(read_step, f"{START} {words}", 6 + k, some)

    def test_missing_and_too_many(self):
        for words in ("bound x", "given c", "suppose", "divide 1 2", "apart c", "then c 3", "cases 1 2 3 4", "absurd 1",
                      "weaken 1"):
            text = f"{START} {words}"
            many = len(text.split(" "))
            for word in ("3", "x", "", "by"):
                self.bad(read_step, f"{text} {word}", many)
            for k in range(6, many):
                self.bad(read_step, " ".join(text.split(" ")[:k]), k)
        self.bad(read_step, f"{START} look", 6)
        for words in ("sum", "look c", "unit"):
            text = f"{START} {words} "
            self.bad(read_step, text, len(text.split(" ")) - 1)

    def test_newlines_belong_to_words(self):
        self.bad(read_step, f"{START} suppose\nnever by suppose", 5)
        self.bad(read_fact, "row <= 3\n", 2)
        self.bad(read_fact, "never\nby", 0)

    def test_unknowns_that_the_model_does_not_have(self):
        for what, step in (
            (5, (F, "bound", 5)), (-1, (F, "bound", -1)), (6, (row(0, (6, 1)), "bound", 5)),
            (7, (clause((7, "=", 1)), "sum", ((1, GREAT + 1),))),
        ):
            with self.assertRaises(NoSuch) as caught:
                step_text(MODEL, step)
            self.assertEqual(caught.exception.what, what)

    def test_more_than_600_digits(self):
        great = GREAT + 1
        for rest in (("sum", ((great, 1),)), ("sum", ((1, -great),)), ("divide", great, 1), ("divide", 1, great),
                     ("look", "c", (1, great)), ("then", "c", great), ("unit", (great,)), ("cases", 1, 2, 3, great),
                     ("absurd", -great), ("weaken", great)):
            self.assertRaises(TooLarge, step_text, MODEL, (F,) + rest)
        self.assertRaises(TooLarge, step_text, MODEL, (row(great), "bound", 9))
        self.assertRaises(NoSuch, step_text, MODEL, (row(0, (9, 1)), "weaken", great))

    def test_random_steps(self):
        rng = random.Random(890)
        read = 0
        for _ in range(60):
            model = random_model(rng)
            for step in random_steps(rng, model, 40):
                text = step_text(model, step)
                self.assertEqual(read_step(model, text), step)
                garbled = self.garbled(rng, text)
                try:
                    other = read_step(model, garbled)
                except BadText as error:
                    self.assertEqual(error.line, 1)
                    self.assertLessEqual(error.word, len(garbled.split(" ")))
                else:
                    self.assertEqual(step_text(model, other), garbled)
                    read += 1
        self.assertGreater(read, 40)


if __name__ == "__main__":
    unittest.main()
