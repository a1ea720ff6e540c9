import unittest
from itertools import permutations

from graph_cases import (
    COMPLETE_FIVE, LARGEST_HANDED_IN, NOT_CONNECTED, NOT_CONNECTED_GRAPHS, OUTSIDE_LIMITS, OUTSIDE_LIMITS_GRAPHS,
    PATH_OF_FIVE, PATH_OF_FOUR, REFUSED_GRAPHS, TOO_WIDE, TOO_WIDE_GRAPHS, NothingIsKept, all_graphs, distances, flat,
    is_tree_by_terms, pairs_of, refusal_of, with_one_more_edge,
)
from pebblemoves.pebbling import diameter, graph_pebbling_number


def connected_graphs():
    """Every connected graph of 1 to 5 vertices, of any diameter."""
    return [graph for graph in all_graphs() if refusal_of(*graph) != NOT_CONNECTED]


class KnownDiameters(unittest.TestCase):
    def check(self, vertex_count, edges, expected):
        self.assertEqual(diameter(vertex_count, edges), [expected])

    def test_one_vertex_without_edges(self):
        self.check(1, [], 0)

    def test_two_vertices(self):
        self.check(2, [0, 1], 1)

    def test_path_of_three(self):
        self.check(3, [0, 1, 1, 2], 2)
        self.check(3, [0, 1, 0, 2], 2)
        self.check(3, [0, 2, 1, 2], 2)

    def test_path_of_four(self):
        self.check(4, PATH_OF_FOUR, 3)
        self.check(4, [0, 1, 0, 3, 2, 3], 3)

    def test_path_of_five_is_answered_although_it_is_too_wide_elsewhere(self):
        self.check(5, PATH_OF_FIVE, 4)
        self.check(5, [0, 2, 0, 4, 1, 3, 1, 4], 4)
        self.assertEqual(graph_pebbling_number(5, PATH_OF_FIVE), [TOO_WIDE])

    def test_stars(self):
        self.check(4, [0, 3, 1, 3, 2, 3], 2)
        self.check(5, [0, 1, 0, 2, 0, 3, 0, 4], 2)

    def test_cycles(self):
        self.check(3, [0, 1, 0, 2, 1, 2], 1)
        self.check(4, [0, 1, 0, 3, 1, 2, 2, 3], 2)
        self.check(5, [0, 1, 0, 4, 1, 2, 2, 3, 3, 4], 2)

    def test_cycles_with_a_tail(self):
        self.check(4, [0, 1, 0, 2, 1, 2, 2, 3], 2)
        self.check(5, [0, 1, 0, 2, 1, 2, 2, 3, 3, 4], 3)
        # The largest distance, 3, is that of 1 and 2 alone.
        self.check(5, [0, 1, 0, 3, 0, 4, 2, 4, 3, 4], 3)

    def test_complete_graph(self):
        self.check(5, COMPLETE_FIVE, 1)


class EveryGraph(unittest.TestCase):
    """Every connected graph of 1 to 5 vertices."""

    @classmethod
    def setUpClass(cls):
        cls.answers = {}
        for vertex_count, edges in connected_graphs():
            cls.answers[vertex_count, tuple(edges)] = diameter(vertex_count, edges)

    def test_one_whole_number_is_answered(self):
        for call, answer in self.answers.items():
            with self.subTest(call=call):
                self.assertIs(type(answer), list)
                self.assertEqual([type(number) for number in answer], [int])

    def test_largest_distance(self):
        for (vertex_count, edges), answer in self.answers.items():
            with self.subTest(vertex_count=vertex_count, edges=edges):
                self.assertEqual(answer, [max(max(row) for row in distances(vertex_count, edges))])

    def test_every_numbering_of_the_path_of_five(self):
        paths = {
            tuple(flat(sorted(tuple(sorted((names[u], names[v]))) for u, v in pairs_of(PATH_OF_FIVE))))
            for names in permutations(range(5))
        }
        self.assertEqual({edges for (_, edges), answer in self.answers.items() if answer == [4]}, paths)

    def test_trees_and_graphs_with_cycles_are_among_them(self):
        for largest in (2, 3):
            graphs = [graph for graph, answer in self.answers.items() if answer == [largest]]
            self.assertEqual({is_tree_by_terms(*graph) for graph in graphs}, {True, False})

    def test_an_additional_edge_never_increases_the_diameter(self):
        for (vertex_count, edges), answer in self.answers.items():
            for more in with_one_more_edge(vertex_count, edges):
                with self.subTest(vertex_count=vertex_count, edges=edges, more=more):
                    self.assertLessEqual(self.answers[vertex_count, tuple(more)], answer)


class Refusals(unittest.TestCase):
    def check(self, vertex_count, edges, refusal):
        with self.subTest(vertex_count=vertex_count, edges=edges):
            self.assertEqual(diameter(vertex_count, edges), [refusal])

    def test_outside_the_limits(self):
        for vertex_count, edges in OUTSIDE_LIMITS_GRAPHS:
            self.check(vertex_count, edges, OUTSIDE_LIMITS)

    def test_not_connected(self):
        for vertex_count, edges in NOT_CONNECTED_GRAPHS:
            self.check(vertex_count, edges, NOT_CONNECTED)

    def test_every_graph_within_its_limits(self):
        for vertex_count, edges in all_graphs():
            if refusal_of(vertex_count, edges) == NOT_CONNECTED:
                self.check(vertex_count, edges, NOT_CONNECTED)

    def test_too_wide_elsewhere_is_no_refusal(self):
        for vertex_count, edges in TOO_WIDE_GRAPHS:
            self.check(vertex_count, edges, 4)

    def test_order_of_the_refusals(self):
        # Outside the limits and not connected.
        self.check(0, [], OUTSIDE_LIMITS)
        self.check(6, [], OUTSIDE_LIMITS)
        self.check(LARGEST_HANDED_IN, [0, 1], OUTSIDE_LIMITS)
        self.check(2, [0], OUTSIDE_LIMITS)
        self.check(3, [0, 0], OUTSIDE_LIMITS)
        self.check(3, [2, 1], OUTSIDE_LIMITS)
        self.check(3, [0, 3], OUTSIDE_LIMITS)
        self.check(4, [1, 2, 0, 1], OUTSIDE_LIMITS)
        self.check(4, [0, 1, 0, 1], OUTSIDE_LIMITS)
        # Outside the limits and wider than any graph that is accepted elsewhere.
        self.check(6, PATH_OF_FIVE + [4, 5], OUTSIDE_LIMITS)
        self.check(5, PATH_OF_FIVE + [3, 4], OUTSIDE_LIMITS)


class LeavesNoTrace(NothingIsKept, unittest.TestCase):
    answer = staticmethod(diameter)
    calls = [(3, [0, 1, 1, 2]), (1, []), (4, PATH_OF_FOUR), (5, COMPLETE_FIVE)] + [
        (vertex_count, edges) for vertex_count, edges, _ in REFUSED_GRAPHS
    ]


if __name__ == "__main__":
    unittest.main()
