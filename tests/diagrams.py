"""What the promises say of diagrams, done once more in the plainest way, with lists of points."""

import itertools


def points_within(pairs):
    return list(itertools.product(*[range(low, high + 1) for low, high in pairs]))


def is_read(diagram, point):
    """Tell whether the point belongs to the diagram, by reading it node by node."""
    pairs, layers = diagram
    number = 0
    for (low, _), layer, a in zip(pairs, layers, point):
        if number == -1 or not layer:
            return False
        number = layer[number][a - low]
    return number != -1


def points_read(diagram):
    return [point for point in points_within(diagram[0]) if is_read(diagram, point)]


def check_shape(test, diagram):
    """Check that the diagram is in normal shape, and of tuples throughout."""
    pairs, layers = diagram
    test.assertIs(type(pairs), tuple)
    test.assertIs(type(layers), tuple)
    test.assertEqual(len(pairs), len(layers))
    for layer, (low, high) in zip(layers, pairs):
        test.assertIs(type(layer), tuple)
        for node in layer:
            test.assertIs(type(node), tuple)
            test.assertEqual(len(node), high - low + 1)
            test.assertGreaterEqual(max(node), 0)
            test.assertGreaterEqual(min(node), -1)
        test.assertEqual(len(set(layer)), len(layer))
    if not any(layers):
        return
    test.assertEqual(len(layers[0]), 1)
    for k, layer in enumerate(layers):
        behind = len(layers[k + 1]) if k + 1 < len(layers) else 1
        found = list(dict.fromkeys(entry for node in layer for entry in node if entry != -1))
        test.assertEqual(found, list(range(behind)))


def check_points(test, diagram, pairs, points):
    """Check that the diagram has these pairs, is in normal shape, and has exactly these points."""
    test.assertEqual(diagram[0], tuple(pairs))
    check_shape(test, diagram)
    test.assertEqual(points_read(diagram), sorted(set(points)))


def random_points(rng, pairs):
    share = rng.choice((0, 0.1, 0.5, 0.9, 1))
    return [point for point in points_within(pairs) if rng.random() < share]
