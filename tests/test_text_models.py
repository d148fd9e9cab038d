"""Promises [82] to [88] and [91]: written models."""

import random
import unittest

from commonground.errors import BadText
from commonground.ledger.certificate import carry_body
from commonground.model.model import Model
from commonground.text.models import body_text, model_text, read_model
from tests.makers import random_body, random_model

UNKNOWNS = "unknown x 0 4\nunknown y -3 5\nunknown z 2 2"
GOAL = "goal max plus 0"

# A body for each kind, and the words of it.
BODIES = (
    (("row", ((0, 2), (2, -3)), "<=", 7), "row 2*x -3*z <= 7"),
    (("row", (), ">=", -7), "row >= -7"),
    (("row", ((1, 1),), "=", 0), "row 1*y = 0"),
    (("any", ((1, "=", 2),)), "any y = 2"),
    (("any", ((1, "!=", 2), (0, "<=", -1), (1, ">=", 3))), "any y != 2 or x <= -1 or y >= 3"),
    (("when", (2, "!=", 1), ((0, 1), (1, 1)), ">=", 4), "when z != 1 1*x 1*y >= 4"),
    (("when", (2, "=", 1), (), "=", 4), "when z = 1 = 4"),
    (("different", (2, 0)), "different z x"),
    (("different", (2, 0, 1)), "different z x y"),
    (("table", (2, 0), ((1, 2), (3, 4), (1, 2))), "table 2 z x 1 2 3 4 1 2"),
    (("table", (1,), ((-5,),)), "table 1 y -5"),
    (("element", 2, (4, -5, 4), 0), "element z x 4 -5 4"),
    (("element", 1, (9,), 1), "element y y 9"),
    (("times", 2, 0, 2), "times z x z"),
)


class TextTest(unittest.TestCase):
    def bad(self, text, line, word):
        with self.assertRaises(BadText, msg=text) as caught:
            read_model(text)
        self.assertEqual((caught.exception.line, caught.exception.word), (line, word), text)

    def bad_line(self, line, word, before=UNKNOWNS, after=GOAL):
        """Check that the line, put between other lines, is not as expected at this word."""
        self.bad("\n".join([part for part in (before, line, after) if part is not None]), before.count("\n") + 2, word)

    def replaced(self, line, index, words, **where):
        """Check the line with each of the words in place of the one at the index."""
        for word in words:
            parts = line.split(" ")
            parts[index] = word
            self.bad_line(" ".join(parts), index, **where)


class WritingTest(TextTest):
    def test_a_model(self):
        model = Model((("x", 0, 4), ("y2", -1000, 1000)))
        model.put("plus", ("row", ((0, 1), (1, -2)), "<=", 3))
        model.put("x", ("different", (1, 0)))
        model.aim(("min", ((0, 5), (1, -1000000)), -1000000000))
        text = (
            "unknown x 0 4\nunknown y2 -1000 1000\nbody plus row 1*x -2*y2 <= 3\nbody x different y2 x\n"
            "goal min 5*x -1000000*y2 plus -1000000000"
        )
        self.assertEqual(model_text(model), text)
        self.assertEqual(read_model(text).told(), model.told())
        model.move(0, 2, 3)
        self.assertEqual(model_text(model), text.replace("x 0 4", "x 2 3"))

    def test_bodies(self):
        model = Model((("x", 0, 4), ("y", -3, 5), ("z", 2, 2)))
        for body, text in BODIES:
            self.assertEqual(body_text(model, body), text)
            told = read_model(f"{UNKNOWNS}\nbody c {text}\n{GOAL}").told()
            self.assertEqual(told[1], (("c", body),))

    def test_goals(self):
        for text, goal in (
            ("goal max plus 0", ("max", (), 0)),
            ("goal min plus -3", ("min", (), -3)),
            ("goal max 2*x -3*z plus 10", ("max", ((0, 2), (2, -3)), 10)),
        ):
            model = read_model(f"{UNKNOWNS}\n{text}")
            self.assertEqual(model.goal(), goal)
            self.assertEqual(model_text(model), f"{UNKNOWNS}\n{text}")

    def test_read_models_are_new(self):
        text = f"{UNKNOWNS}\n{GOAL}"
        first, second = read_model(text), read_model(text)
        first.move(0, 1, 1)
        self.assertEqual(model_text(second), text)
        self.assertIsInstance(first, Model)

    def test_random_models(self):
        rng = random.Random(91)
        for _ in range(150):
            model = random_model(rng, [f"c{k}" for k in range(rng.randint(0, 5))])
            text = model_text(model)
            self.assertEqual(read_model(text).told(), model.told())
            self.assertEqual(model_text(read_model(text)), text)

    def test_names_that_are_words_of_the_format(self):
        names = ("unknown", "body", "goal", "plus", "or", "row", "any", "max", "min", "times")
        rng = random.Random(910)
        model = Model([(name, 0, 4) for name in names])
        shuffled = Model([(name, 0, 4) for name in rng.sample(names, len(names))])
        for k in range(40):
            body = carry_body(random_body(rng, 5), model, shuffled)
            model.put(rng.choice(names) + str(k), body)
        for name in names:
            model.put(name, carry_body(random_body(rng, 5), model, shuffled))
        model.aim(("max", tuple((v, v + 1) for v in range(10)), 0))
        self.assertEqual(read_model(model_text(model)).told(), model.told())

    def test_garbled_texts_are_refused_or_are_what_was_read(self):
        rng = random.Random(911)
        read = 0
        for _ in range(3000):
            text = model_text(random_model(rng, "abc"))
            signs = list(text)
            for _ in range(rng.randint(1, 2)):
                at = rng.randrange(len(signs))
                signs[at:at + rng.randint(0, 2)] = rng.choice(("", " ", "\n", "0", "1", "-", "x", "*", "x1", "<="))
            garbled = "".join(signs)
            try:
                model = read_model(garbled)
            except BadText as error:
                self.check_place(garbled, error)
            else:
                self.assertEqual(model_text(model), garbled)
                read += 1
        self.assertGreater(read, 100)

    def check_place(self, text, error):
        lines = text.split("\n")
        self.assertTrue(1 <= error.line <= len(lines) + 1)
        words = lines[error.line - 1].split(" ") if error.line <= len(lines) else []
        self.assertTrue(0 <= error.word <= len(words), (text, error.line, error.word))


class SpacesTest(TextTest):
    """[82], [84]: lines and words."""

    def test_empty_texts_and_lines(self):
        self.bad("", 1, 0)
        self.bad("\n", 1, 0)
        self.bad(" ", 1, 0)
        self.bad(f"\n{UNKNOWNS}\n{GOAL}", 1, 0)
        self.bad(f"{UNKNOWNS}\n\n{GOAL}", 4, 0)
        self.bad(f"unknown x 0 4\n\nunknown y 0 4\n{GOAL}", 2, 0)

    def test_a_newline_at_the_end(self):
        self.bad(f"{UNKNOWNS}\n{GOAL}\n", 5, 0)
        self.bad(f"{UNKNOWNS}\n{GOAL}\n\n", 5, 0)
        self.bad(f"{UNKNOWNS}\n", 4, 0)

    def test_spaces(self):
        for line in ("unknown w 0 4", "body c row 2*x <= 7", "body c any x = 1 or y = 2", "body c different x y",
                     "body c table 1 x 1 2", "body c element x y 4 5", "goal max 1*x plus 3"):
            words = line.split(" ")
            where = {"before": "unknown x 0 4\nunknown y 0 4"}
            for k in range(len(words) + 1):
                # An empty word ahead of the word k.
                self.bad_line(" ".join(words[:k] + [""] + words[k:]), k, **where)

    def test_words_missing(self):
        where = {"before": "unknown x 0 4\nunknown y 0 4"}
        for line, least in (
            ("unknown w 0 4", 4), ("body c row 2*x <= 7", 6), ("body c row <= 7", 5), ("body c any x = 1", 6),
            ("body c when x = 1 2*y <= 7", 9), ("body c different x", 4), ("body c table 2 x y 1 2", 8),
            ("body c element x y 4", 6), ("body c times x y x", 6), ("goal max 1*x plus 3", 5),
        ):
            words = line.split(" ")
            self.assertEqual(len(words), least)
            for k in range(1, least):
                self.bad_line(" ".join(words[:k]), k, **where)

    def test_words_too_many(self):
        where = {"before": "unknown x 0 4\nunknown y 0 4"}
        for line in (
            "unknown w 0 4", "body c row 2*x <= 7", "body c any x = 1", "body c any x = 1 or y = 2",
            "body c when x = 1 2*y <= 7", "body c times x y x", "goal max 1*x plus 3",
        ):
            many = len(line.split(" "))
            for word in ("x", "3", "plus", ""):
                self.bad_line(f"{line} {word}", many, **where)
                self.bad_line(f"{line} {word} {word}", many, **where)

    def test_other_characters(self):
        for sign in ("%", "\t", "\r", "\u00e4", "\u2003"):
            self.bad(f"unknown x{sign} 0 4\n{GOAL}", 1, 1)
            self.bad(f"unknown x 0 4{sign}\n{GOAL}", 1, 3)
            self.bad(f"unknown{sign}x 0 4\n{GOAL}", 1, 0)

    def test_the_first_error_counts(self):
        self.bad("unknown x 4 3\nunknown x 0 0\nfoo", 1, 3)
        self.bad("unknown X 4 3\nfoo", 1, 1)
        self.bad(f"{UNKNOWNS}\nbody c row 0*x < 7\n{GOAL}", 4, 3)
        self.bad(f"{UNKNOWNS}\nbody c foo\nfoo", 4, 2)


class UnknownTest(TextTest):
    def test_each_word(self):
        line = "unknown w 0 4"
        self.replaced(line, 0, ("Unknown", "unknowns", "foo", "0", "*"))
        self.replaced(line, 1, ("x", "y", "W", "1w", "w_", "a" * 21, "w*", "-"))
        self.replaced(line, 2, ("-1001", "1001", "x", "00", "-0", "+1", "9" * 601))
        self.replaced(line, 3, ("-1", "1001", "x", "04", "-0", "9" * 601))

    def test_bounds_at_the_edges(self):
        text = f"unknown {'a' * 20} -1000 -1000\nunknown b 1000 1000\nunknown c -1000 1000\n{GOAL}"
        self.assertEqual(model_text(read_model(text)), text)

    def test_none(self):
        for text in (GOAL, f"body c row <= 3\n{GOAL}", "foo", "body"):
            self.bad(text, 1, 0)

    def test_behind_a_body_line(self):
        self.bad(f"unknown x 0 4\nbody c row <= 3\nunknown y 0 4\n{GOAL}", 3, 0)

    def test_60_and_61(self):
        sixty = "\n".join(f"unknown x{k} 0 4" for k in range(60))
        self.assertEqual(read_model(f"{sixty}\n{GOAL}").many(), 60)
        self.bad_line("unknown more 0 4", 0, before=sixty)
        self.bad_line("unknown more 0 4 4", 4, before=sixty)
        self.bad_line("unknown x3 0 4", 1, before=sixty)
        self.bad_line("unknown more 0 -4", 3, before=sixty)
        self.bad_line("unknown more 0 4", 0, before=sixty, after="foo")


class GoalTest(TextTest):
    def test_each_word(self):
        line = "goal min 2*x -3*z plus 10"
        self.replaced(line, 0, ("goals", "Goal", "unknown", "foo", "min"), before=f"{UNKNOWNS}\nbody c row <= 3")
        self.replaced(line, 0, ("goals", "Goal", "foo", "min"))
        self.replaced(line, 1, ("Max", "mean", "2*x", "plus", "-"))
        self.replaced(line, 2, ("0*x", "-0*x", "2*w", "2x", "x*2", "*x", "2*", "*", "2**x", "2*x*", "minus", "x", "+2*x"))
        self.replaced(line, 3, ("0*z", "3*x", "1*x", "3*w", "z", "minus"))
        self.replaced(line, 4, ("Plus", "minus", "4*z", "4*y", "10", "+"))
        self.replaced(line, 5, ("x", "010", "-0", "plus", "9" * 601))

    def test_the_text_ends_without_a_goal(self):
        self.bad(UNKNOWNS, 4, 0)
        self.bad(f"{UNKNOWNS}\nbody c row <= 3", 5, 0)

    def test_a_line_after_it(self):
        for line in (GOAL, "body c row <= 3", "unknown w 0 4", "foo", "", " "):
            self.bad(f"{UNKNOWNS}\n{GOAL}\n{line}", 5, 0)
        self.bad(f"{UNKNOWNS}\ngoal max\nfoo", 4, 2)

    def test_a_goal_that_does_not_fit(self):
        for line in ("goal max 1000001*x plus 0", "goal min 1*x plus 1000000001", "goal max plus -1000000001",
                     f"goal max 1*x plus {'9' * 600}", f"goal max {'9' * 600}*x plus 1"):
            self.bad_line(line, 1, after=None)
            self.bad_line(line, 1)
        self.bad_line("goal max 1000001*x plus 0 0", 5)
        for line in ("goal max 1000000*x plus 1000000000", "goal max -1000000*x plus -1000000000"):
            self.assertEqual(model_text(read_model(f"{UNKNOWNS}\n{line}")), f"{UNKNOWNS}\n{line}")


class BodyTest(TextTest):
    NO_NAMES = ("w", "X", "0", "*", "<=", "1*x")
    NO_INTEGERS = ("x", "00", "-0", "+1", "<=", "9" * 601)

    def test_labels_and_kinds(self):
        before = f"{UNKNOWNS}\nbody c row <= 3"
        line = "body d times x y z"
        self.replaced(line, 0, ("bodies", "Body", "foo", "d"), before=before)
        self.replaced(line, 1, ("c", "D", "1d", "a" * 21, "d*", "-"), before=before)
        self.replaced(line, 2, ("time", "Row", "all", "x", "5"), before=before)
        for label in ("x", "row", "body", "a" * 20):
            text = f"{before}\nbody {label} times x y z\n{GOAL}"
            self.assertEqual(model_text(read_model(text)), text)

    def test_row(self):
        line = "body c row 2*x -3*z <= 7"
        self.replaced(line, 3, ("0*x", "2*w", "*x", "2*", "2", "x", "y", "!=", "or"))
        self.replaced(line, 4, ("1*x", "0*z", "-3", "!=", "plus"))
        self.replaced(line, 5, ("!=", "<", "==", "7", "4*z", "4*y", "plus"))
        self.replaced(line, 6, self.NO_INTEGERS)

    def test_any(self):
        line = "body c any x = 1 or y != 2"
        self.replaced(line, 3, self.NO_NAMES)
        self.replaced(line, 4, ("<", "==", "1", "or"))
        self.replaced(line, 5, self.NO_INTEGERS)
        self.replaced(line, 6, ("and", "x", "Or", "by", "0"))
        self.replaced(line, 7, self.NO_NAMES)
        self.replaced(line, 8, ("<", "x"))
        self.replaced(line, 9, self.NO_INTEGERS)
        self.bad_line("body c any x = 1 or", 7)
        self.bad_line("body c any x = 1 or y", 8)
        self.bad_line("body c any or", 3)

    def test_when(self):
        line = "body c when z != 1 1*x 1*y >= 4"
        self.replaced(line, 3, self.NO_NAMES)
        self.replaced(line, 4, ("<", "x"))
        self.replaced(line, 5, self.NO_INTEGERS)
        self.replaced(line, 6, ("0*x", "1*w", "x", "!="))
        self.replaced(line, 7, ("1*x", "1*w", "!="))
        self.replaced(line, 8, ("!=", "<", "4"))
        self.replaced(line, 9, self.NO_INTEGERS)

    def test_different(self):
        line = "body c different z x y"
        for k in (3, 4, 5):
            self.replaced(line, k, self.NO_NAMES)

    def test_table(self):
        line = "body c table 2 z x 1 2 3 4"
        self.replaced(line, 3, ("0", "-1", "x", "02"))
        for k in (4, 5):
            self.replaced(line, k, self.NO_NAMES)
        for k in (6, 7, 8, 9):
            self.replaced(line, k, self.NO_INTEGERS)
        self.bad_line("body c table 2 z x 1 2 3", 9)
        self.bad_line("body c table 2 z x 1", 7)
        self.bad_line("body c table 3 z x 1 2 3", 6)
        self.bad_line(f"body c table {'9' * 600} z x 1 2 3", 6)

    def test_element(self):
        line = "body c element z x 4 -5"
        for k in (3, 4):
            self.replaced(line, k, self.NO_NAMES)
        for k in (5, 6):
            self.replaced(line, k, self.NO_INTEGERS)

    def test_times(self):
        for k in (3, 4, 5):
            self.replaced("body c times z x z", k, self.NO_NAMES)

    def test_bodies_that_do_not_fit(self):
        literals = " or ".join(f"x = {k}" for k in range(41))
        for body in (
            "row 1000001*x <= 3", "row 1*x <= 1000000001", "any x = 1002", "any x = 1 or x = 1", f"any {literals}",
            "when x = -1002 1*y <= 3", "when x = 1 -1000001*y <= 3", "when x = 1 1*y <= -1000000001", "different x",
            "different x x", "different x y x", "table 2 x x 1 2", "table 1 x 1001", "table 1 x 1 2 -1001",
            "table 7 x y z x y z x 1 2 3 4 5 6 7", "table 1 x" + " 1" * 201, "element x y -1001",
            "element x y" + " 1" * 61, f"table 1 x {'9' * 600}",
        ):
            self.bad_line(f"body c {body}", 2)
        # A word that is not as expected comes ahead of it.
        self.bad_line("body c row 1000001*x <= 3 3", 6)
        self.bad_line("body c different x x w", 5)

    def test_bodies_that_just_fit(self):
        literals = " or ".join(f"x = {k}" for k in range(40))
        for body in (
            "row -1000000*x 1000000*y <= -1000000000", "any x = 1001 or x = -1001", f"any {literals}",
            "table 1 x" + " 1" * 200, "table 1 x 1000 -1000", "element x y" + " 1000" * 60,
        ):
            text = f"{UNKNOWNS}\nbody c {body}\n{GOAL}"
            self.assertEqual(model_text(read_model(text)), text)

    def test_200_and_201(self):
        many = UNKNOWNS + "".join(f"\nbody c{k} row <= 3" for k in range(200))
        self.assertEqual(len(read_model(f"{many}\n{GOAL}").labels()), 200)
        self.bad_line("body d row <= 3", 0, before=many)
        self.bad_line("body d row <= 3", 0, before=many, after="foo")
        # Several at once: words first, then what does not fit, then what is too many.
        self.bad_line("body d row <= 3 3", 5, before=many)
        self.bad_line("body c7 row <= 3", 1, before=many)
        self.bad_line("body d row <= 1000000001", 2, before=many)
        self.bad_line("body d row < 1000000001", 3, before=many)


if __name__ == "__main__":
    unittest.main()
