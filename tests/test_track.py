"""Promise [109]: tracks."""

import random
import unittest

from commonground.diagram.track import Track
from tests import naive
from tests.makers import made, points_in, random_body

BOUNDS = [(-1, 2), (0, 2), (0, 1)]


def is_state(state):
    """Tell whether it is an integer, a string, or a tuple of these and of such tuples."""
    return type(state) in (int, str) or type(state) is tuple and all(map(is_state, state))


def states_along(track, point):
    """Return the states before the first value and after each one, None being followed by None."""
    states = [track.start()]
    for v, a in enumerate(point):
        states.append(None if states[-1] is None else track.after(states[-1], v, a))
    return states


class TrackTest(unittest.TestCase):
    def check(self, bounds, body):
        """Check all that is promised of the track of the body, and return for how many points it holds."""
        model = made(bounds)
        track = Track(model, body)
        told = {}
        for point in points_in(bounds):
            held = naive.body_is_met(body, point)
            states = states_along(track, point)
            self.assertIs(states[-1] is not None, held)
            self.assertEqual(states, states_along(Track(model, body), point))
            for k, state in enumerate(states):
                self.assertTrue(state is None or is_state(state), state)
                if state is None:
                    self.assertIs(held, False)
                # What is behind decides, whatever led to the state.
                self.assertIs(told.setdefault((k, state, point[k:]), held), held)
        return sum(naive.body_is_met(body, point) for point in points_in(bounds))


class KindsTest(TrackTest):
    def test_rows(self):
        for relation in ("<=", ">=", "="):
            for rhs in (-20, -5, 0, 1, 4, 20):
                for terms in ((), ((0, 1),), ((1, -2),), ((0, 1), (2, 3)), ((0, 2), (1, -1), (2, 5))):
                    self.check(BOUNDS, ("row", terms, relation, rhs))

    def test_when(self):
        for literal in ((0, "=", 1), (1, ">=", 1), (2, "!=", 0), (1, "<=", -1), (2, "<=", 9)):
            for terms in ((), ((0, 1),), ((2, 1),), ((0, 2), (1, 1), (2, -1))):
                for relation, rhs in (("<=", 1), (">=", 1), ("=", 1), ("=", 0), (">=", 9)):
                    self.check(BOUNDS, ("when", literal, terms, relation, rhs))

    def test_any(self):
        for literals in (((0, "=", 1),), ((2, "=", 1),), ((0, "=", 9), (1, "<=", -1)), ((0, "=", 9), (1, "<=", 0)),
                         ((2, "=", 1), (0, "!=", 0)), ((1, "=", 1), (1, "=", 2)), ((0, ">=", -5),)):
            self.check(BOUNDS, ("any", literals))

    def test_different(self):
        for unknowns in ((0, 1), (2, 0), (1, 2, 0), (2, 1)):
            self.check(BOUNDS, ("different", unknowns))
        self.assertEqual(self.check([(0, 1)] * 3, ("different", (0, 1, 2))), 0)
        self.assertEqual(self.check([(0, 3)] * 4, ("different", (3, 0, 1, 2))), 24)

    def test_table(self):
        rows = ((1, 2, 0), (1, 2, 0), (0, 1, 1), (2, 1, -1), (9, 9, 9), (0, 2, 0), (1, 1, 0))
        self.check(BOUNDS, ("table", (1, 0, 2), rows))
        self.check(BOUNDS, ("table", (2,), ((1,), (5,))))
        self.check(BOUNDS, ("table", (2,), ((7,), (5,))))
        self.check(BOUNDS, ("table", (2, 0), ((1, 1), (0, 1), (1, 0), (0, 0))))

    def test_element(self):
        for x in range(3):
            for z in range(3):
                self.check(BOUNDS, ("element", x, (0, 2, 1), z))
                self.check(BOUNDS, ("element", x, (9, 9), z))

    def test_times(self):
        kinds = set()
        for x in range(3):
            for y in range(3):
                for z in range(3):
                    kinds.add(self.check(BOUNDS, ("times", x, y, z)) > 0)
        self.check([(-2, 2), (-4, 4), (-2, 2)], ("times", 0, 2, 1))
        self.check([(-4, 4), (-2, 2)], ("times", 1, 1, 0))
        self.check([(0, 0), (-4, 4), (0, 0)], ("times", 0, 1, 2))
        self.check([(1, 1), (2, 2), (3, 5)], ("times", 0, 1, 2))

    def test_great_bounds(self):
        model = made([(-1000, 1000)] * 3)
        track = Track(model, ("times", 0, 1, 2))
        self.assertIsNotNone(states_along(track, (-25, 40, -1000))[-1])
        self.assertIsNone(states_along(track, (-25, 40, -999))[-1])
        self.assertIsNotNone(states_along(track, (0, 40, 0))[-1])
        track = Track(model, ("row", ((0, 1000000), (2, -1000000)), "=", 10 ** 9))
        self.assertIsNotNone(states_along(track, (700, 3, -300))[-1])
        self.assertIsNone(states_along(track, (700, 3, -301))[-1])

    def test_random_bodies(self):
        rng = random.Random(109)
        for _ in range(500):
            self.check(BOUNDS, random_body(rng, 3))

    def test_one_unknown(self):
        for body in (("times", 0, 0, 0), ("element", 0, (1, 1, 2), 0), ("row", ((0, 2),), "=", 2),
                     ("any", ((0, "=", 2),)), ("table", (0,), ((1,), (1,))), ("when", (0, ">=", 1), ((0, 1),), "<=", 1)):
            self.check([(-1, 3)], body)


class OtherUnknownsTest(TrackTest):
    def test_unknowns_that_do_not_occur(self):
        for body in (("times", 1, 1, 3), ("element", 3, (1, 0), 1), ("row", ((1, 2), (3, 1)), "<=", 2),
                     ("any", ((1, "=", 1), (3, "=", 1))), ("table", (3, 1), ((1, 0), (0, 1))), ("different", (1, 3)),
                     ("when", (1, "=", 1), ((3, 1),), "=", 1), ("when", (3, "=", 1), ((1, 1),), "=", 1),
                     ("row", (), "<=", 0), ("row", (), "<=", -1), ("any", ((1, "=", 7),))):
            self.check([(0, 1), (-1, 1), (0, 1), (0, 1), (2, 3)], body)

    def test_none_at_once_only_if_it_cannot_hold(self):
        for body in (("row", (), "<=", -1), ("any", ((0, "=", 7),))):
            track = Track(made(BOUNDS), body)
            states = states_along(track, (0, 0, 0))
            self.assertIsNone(states[-1])
        for body in (("row", (), "<=", 0), ("any", ((0, "=", 2),)), ("element", 1, (2, 2), 0), ("times", 0, 1, 2)):
            self.assertIsNotNone(Track(made(BOUNDS), body).start())

    def test_no_connection_with_the_model(self):
        rng = random.Random(1090)
        for _ in range(100):
            model = made(BOUNDS)
            body = random_body(rng, 3)
            track = Track(model, body)
            before = [states_along(track, point) for point in points_in(BOUNDS)]
            for v in range(3):
                model.move(v, 5, 6)
            self.assertEqual([states_along(track, point) for point in points_in(BOUNDS)], before)

    def test_a_track_remembers_nothing(self):
        track = Track(made(BOUNDS), ("row", ((0, 1), (1, 1), (2, 1)), "=", 2))
        first = track.after(track.start(), 0, 1)
        track.after(track.after(track.start(), 0, 2), 1, 0)
        self.assertEqual(track.after(track.start(), 0, 1), first)
        self.assertIsNotNone(track.after(track.after(first, 1, 1), 2, 0))


if __name__ == "__main__":
    unittest.main()
