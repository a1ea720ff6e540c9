import unittest
from itertools import permutations

from graph_cases import (
    COMPLETE_FIVE, LARGEST_HANDED_IN, NO_SUCH_TARGET, NOT_A_TREE, NOT_CONNECTED, OUTSIDE_LIMITS, PATH_OF_FIVE,
    PATH_OF_FOUR, REFUSED_GRAPHS, TOO_WIDE, NothingIsKept, accepted_graphs, all_graphs, distances, flat,
    is_tree_by_terms, number_by_terms, pairs_of, refusal_of,
)
from pebblemoves.pebbling import path_partition, pebbling_number

# One of each shape with a diameter of at most 3.
SHAPES_OF_TREES = [
    (1, []),
    (2, [0, 1]),
    (3, [0, 1, 1, 2]),
    (4, PATH_OF_FOUR),
    (4, [0, 1, 0, 2, 0, 3]),
    (5, [0, 1, 0, 2, 0, 3, 0, 4]),
    (5, [0, 1, 1, 2, 2, 3, 2, 4]),
]

TRIANGLE = [0, 1, 0, 2, 1, 2]


def accepted_trees():
    return [graph for graph in accepted_graphs() if is_tree_by_terms(*graph)]


def graphs_with_a_cycle():
    return [graph for graph in accepted_graphs() if not is_tree_by_terms(*graph)]


def lengths_by_terms(vertex_count, target, edges):
    """The lengths of the path partition, chosen step by step as the document tells it."""
    table = distances(vertex_count, edges)
    visited = {target}
    lengths = []
    while len(visited) < vertex_count:
        choices = []
        for vertex in range(vertex_count):
            if vertex not in visited:
                distance, nearest = min((table[vertex][other], other) for other in visited)
                choices.append((-distance, vertex, nearest))
        # The greatest distance comes first, and of those with the same the lowest index.
        negative, vertex, nearest = min(choices)
        lengths.append(-negative)
        for between in range(vertex_count):
            if table[vertex][between] + table[between][nearest] == -negative:
                visited.add(between)
    return lengths


class Examples(unittest.TestCase):
    def test_example_of_the_document(self):
        self.assertEqual(path_partition(3, 1, [0, 1, 1, 2]), [3, 1, 1])


class KnownPartitions(unittest.TestCase):
    def check(self, vertex_count, edges, answers):
        """The answers from target 0 on."""
        self.assertEqual([path_partition(vertex_count, target, edges) for target in range(vertex_count)], answers)

    def test_one_vertex_without_edges(self):
        self.check(1, [], [[1]])

    def test_two_vertices(self):
        self.check(2, [0, 1], [[2, 1], [2, 1]])

    def test_path_of_three(self):
        self.check(3, [0, 1, 1, 2], [[4, 2], [3, 1, 1], [4, 2]])
        self.check(3, [0, 1, 0, 2], [[3, 1, 1], [4, 2], [4, 2]])

    def test_path_of_four_has_the_largest_diameter(self):
        self.check(4, PATH_OF_FOUR, [[8, 3], [5, 2, 1], [5, 2, 1], [8, 3]])

    def test_the_longer_path_is_chosen_first_wherever_its_end_stands(self):
        # The paths 3-2-0-1 and 0-1-3-2, from their second vertices.
        self.check(4, [0, 1, 0, 2, 2, 3], [[5, 2, 1], [8, 3], [5, 2, 1], [8, 3]])
        self.check(4, [0, 1, 1, 3, 2, 3], [[8, 3], [5, 2, 1], [8, 3], [5, 2, 1]])

    def test_stars(self):
        self.check(4, [0, 3, 1, 3, 2, 3], [[5, 2, 1], [5, 2, 1], [5, 2, 1], [4, 1, 1, 1]])
        self.check(5, [0, 1, 0, 2, 0, 3, 0, 4], [[5, 1, 1, 1, 1]] + [[6, 2, 1, 1]] * 4)

    def test_two_ends_at_the_same_distance(self):
        self.check(5, [0, 1, 1, 2, 2, 3, 2, 4], [[9, 3, 1], [6, 2, 1, 1], [6, 2, 1, 1], [9, 3, 1], [9, 3, 1]])


class EveryTree(unittest.TestCase):
    """Every tree of 1 to 5 vertices with a diameter of at most 3, in every numbering, and every target."""

    @classmethod
    def setUpClass(cls):
        cls.answers = {}
        for vertex_count, edges in accepted_trees():
            for target in range(vertex_count):
                cls.answers[vertex_count, target, tuple(edges)] = path_partition(vertex_count, target, edges)

    def test_every_numbering_is_among_them(self):
        numberings = {
            (vertex_count, tuple(flat(sorted(tuple(sorted((names[u], names[v]))) for u, v in pairs_of(edges)))))
            for vertex_count, edges in SHAPES_OF_TREES for names in permutations(range(vertex_count))
        }
        self.assertEqual({(vertex_count, edges) for vertex_count, _, edges in self.answers}, numberings)

    def test_whole_numbers_are_answered(self):
        for call, answer in self.answers.items():
            with self.subTest(call=call):
                self.assertIs(type(answer), list)
                self.assertEqual({type(number) for number in answer}, {int})

    def test_lengths_by_terms(self):
        for (vertex_count, target, edges), answer in self.answers.items():
            with self.subTest(vertex_count=vertex_count, target=target, edges=edges):
                self.assertEqual(answer[1:], lengths_by_terms(vertex_count, target, edges))

    def test_the_paths_have_each_edge_once(self):
        for (vertex_count, target, edges), answer in self.answers.items():
            with self.subTest(vertex_count=vertex_count, target=target, edges=edges):
                self.assertEqual(sum(answer[1:]), vertex_count - 1)
                self.assertNotIn(0, answer[1:])

    def test_the_first_path_leads_to_a_vertex_farthest_from_the_target(self):
        for (vertex_count, target, edges), answer in self.answers.items():
            if vertex_count > 1:
                with self.subTest(vertex_count=vertex_count, target=target, edges=edges):
                    self.assertEqual(answer[1], max(distances(vertex_count, edges)[target]))

    def test_pebbles_by_the_formula(self):
        for (vertex_count, target, edges), answer in self.answers.items():
            with self.subTest(vertex_count=vertex_count, target=target, edges=edges):
                lengths = lengths_by_terms(vertex_count, target, edges)
                self.assertEqual(answer[0], 1 + sum(2 ** length - 1 for length in lengths))

    def test_pebbles_are_the_pebbling_number(self):
        for (vertex_count, target, edges), answer in self.answers.items():
            with self.subTest(vertex_count=vertex_count, target=target, edges=edges):
                self.assertEqual(answer[:1], pebbling_number(vertex_count, target, list(edges)))
                self.assertEqual(answer[0], number_by_terms(vertex_count, target, edges))


class Refusals(unittest.TestCase):
    def check(self, vertex_count, target, edges, refusal):
        with self.subTest(vertex_count=vertex_count, target=target, edges=edges):
            self.assertEqual(path_partition(vertex_count, target, edges), [refusal])

    def test_refused_graphs_with_any_target(self):
        for vertex_count, edges, refusal in REFUSED_GRAPHS:
            for target in (0, 1, 4, vertex_count, LARGEST_HANDED_IN):
                self.check(vertex_count, target, edges, refusal)

    def test_every_graph_within_its_limits(self):
        for vertex_count, edges in all_graphs():
            refusal = refusal_of(vertex_count, edges)
            if refusal is not None:
                for target in list(range(vertex_count + 1)) + [LARGEST_HANDED_IN]:
                    self.check(vertex_count, target, edges, refusal)

    def test_target_that_does_not_exist(self):
        for vertex_count, edges in accepted_graphs():
            for target in (vertex_count, vertex_count + 1, LARGEST_HANDED_IN):
                self.check(vertex_count, target, edges, NO_SUCH_TARGET)

    def test_connected_graphs_with_a_cycle(self):
        for vertex_count, edges in graphs_with_a_cycle():
            for target in range(vertex_count):
                self.check(vertex_count, target, edges, NOT_A_TREE)

    def test_as_many_edges_as_a_tree_but_not_connected(self):
        for target in (0, 3, 4, LARGEST_HANDED_IN):
            self.check(4, target, TRIANGLE, NOT_CONNECTED)
            self.check(5, target, [0, 1, 0, 2, 1, 2, 3, 4], NOT_CONNECTED)
            self.check(5, target, [0, 1, 0, 3, 1, 2, 2, 3], NOT_CONNECTED)

    def test_order_of_the_refusals(self):
        # The graph is told of before the target.
        self.check(3, 3, [0, 0], OUTSIDE_LIMITS)
        self.check(6, 6, PATH_OF_FIVE + [4, 5], OUTSIDE_LIMITS)
        self.check(5, 5, PATH_OF_FIVE + [3, 4], OUTSIDE_LIMITS)
        self.check(3, 3, [0, 1], NOT_CONNECTED)
        self.check(5, 5, PATH_OF_FIVE, TOO_WIDE)
        # A tree that is too wide is told of as such.
        self.check(5, 0, PATH_OF_FIVE, TOO_WIDE)
        # The target is told of before the cycle.
        self.check(3, 3, TRIANGLE, NO_SUCH_TARGET)
        self.check(3, LARGEST_HANDED_IN, TRIANGLE, NO_SUCH_TARGET)
        self.check(5, 5, COMPLETE_FIVE, NO_SUCH_TARGET)
        self.check(3, 2, TRIANGLE, NOT_A_TREE)


class LeavesNoTrace(NothingIsKept, unittest.TestCase):
    answer = staticmethod(path_partition)
    calls = [
        (3, 1, [0, 1, 1, 2]), (1, 0, []), (4, 1, PATH_OF_FOUR), (5, 4, [0, 1, 1, 2, 2, 3, 2, 4]),
        (3, 3, [0, 1, 1, 2]), (3, 0, TRIANGLE), (3, 3, TRIANGLE), (5, 0, COMPLETE_FIVE),
    ] + [(vertex_count, 0, edges) for vertex_count, edges, _ in REFUSED_GRAPHS]


if __name__ == "__main__":
    unittest.main()
