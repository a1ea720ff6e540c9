import unittest

from graph_cases import (
    COMPLETE_FIVE, NOT_CONNECTED, OUTSIDE_LIMITS, PATH_OF_FIVE, PATH_OF_FOUR, REFUSED_GRAPHS, TOO_WIDE, NothingIsKept,
    accepted_graphs, all_graphs, distances, every_configuration_reaches, number_by_terms, refusal_of,
    with_one_more_edge,
)
from pebblemoves.pebbling import graph_pebbling_number, pebbling_number


class KnownNumbers(unittest.TestCase):
    def check(self, vertex_count, edges, number):
        self.assertEqual(graph_pebbling_number(vertex_count, edges), [number])

    def test_one_vertex_without_edges(self):
        self.check(1, [], 1)

    def test_two_vertices(self):
        self.check(2, [0, 1], 2)

    def test_trees(self):
        self.check(3, [0, 1, 1, 2], 4)
        self.check(5, [0, 1, 0, 2, 0, 3, 0, 4], 6)

    def test_largest_diameter(self):
        self.check(4, PATH_OF_FOUR, 8)
        self.check(5, [0, 1, 1, 2, 2, 3, 2, 4], 9)

    def test_a_vertex_other_than_the_first_and_last_has_the_largest_number(self):
        # The path 1-0-3-2: the ends 1 and 2 need 8 pebbles, 0 and 3 need 5.
        self.check(4, [0, 1, 0, 3, 2, 3], 8)

    def test_cycles(self):
        self.check(3, [0, 1, 0, 2, 1, 2], 3)
        self.check(4, [0, 1, 0, 3, 1, 2, 2, 3], 4)
        self.check(5, [0, 1, 0, 4, 1, 2, 2, 3, 3, 4], 5)

    def test_complete_graph(self):
        self.check(5, COMPLETE_FIVE, 5)


class EveryGraph(unittest.TestCase):
    """Every accepted graph of 1 to 5 vertices."""

    @classmethod
    def setUpClass(cls):
        cls.numbers = {}
        for vertex_count, edges in accepted_graphs():
            cls.numbers[vertex_count, tuple(edges)] = graph_pebbling_number(vertex_count, edges)

    def test_one_whole_number_is_answered(self):
        for call, answer in self.numbers.items():
            with self.subTest(call=call):
                self.assertIs(type(answer), list)
                self.assertEqual([type(number) for number in answer], [int])

    def test_largest_number_by_terms(self):
        for (vertex_count, edges), answer in self.numbers.items():
            with self.subTest(vertex_count=vertex_count, edges=edges):
                numbers = [number_by_terms(vertex_count, target, edges) for target in range(vertex_count)]
                self.assertEqual(answer, [max(numbers)])

    def test_largest_pebbling_number_of_a_vertex(self):
        for (vertex_count, edges), answer in self.numbers.items():
            with self.subTest(vertex_count=vertex_count, edges=edges):
                answers = [pebbling_number(vertex_count, target, list(edges)) for target in range(vertex_count)]
                self.assertEqual(answer, max(answers))

    def test_exactness(self):
        for (vertex_count, edges), (number,) in self.numbers.items():
            with self.subTest(vertex_count=vertex_count, edges=edges):
                for target in range(vertex_count):
                    self.assertTrue(every_configuration_reaches(vertex_count, target, number, edges))
                if number > 1:
                    fewer = [
                        every_configuration_reaches(vertex_count, target, number - 1, edges)
                        for target in range(vertex_count)
                    ]
                    self.assertIn(False, fewer)

    def test_lower_bounds(self):
        for (vertex_count, edges), (number,) in self.numbers.items():
            with self.subTest(vertex_count=vertex_count, edges=edges):
                self.assertGreaterEqual(number, vertex_count)
                self.assertGreaterEqual(number, 2 ** max(max(row) for row in distances(vertex_count, edges)))

    def test_an_additional_edge_never_increases_the_number(self):
        for (vertex_count, edges), (number,) in self.numbers.items():
            for more in with_one_more_edge(vertex_count, edges):
                with self.subTest(vertex_count=vertex_count, edges=edges, more=more):
                    self.assertLessEqual(self.numbers[vertex_count, tuple(more)][0], number)


class Refusals(unittest.TestCase):
    def test_refused_graphs(self):
        for vertex_count, edges, refusal in REFUSED_GRAPHS:
            with self.subTest(vertex_count=vertex_count, edges=edges):
                self.assertEqual(graph_pebbling_number(vertex_count, edges), [refusal])

    def test_every_graph_within_its_limits(self):
        for vertex_count, edges in all_graphs():
            refusal = refusal_of(vertex_count, edges)
            if refusal is not None:
                with self.subTest(vertex_count=vertex_count, edges=edges):
                    self.assertEqual(graph_pebbling_number(vertex_count, edges), [refusal])

    def test_order_of_the_refusals(self):
        # Outside the limits and not connected.
        self.assertEqual(graph_pebbling_number(0, []), [OUTSIDE_LIMITS])
        self.assertEqual(graph_pebbling_number(6, []), [OUTSIDE_LIMITS])
        self.assertEqual(graph_pebbling_number(3, [0, 0]), [OUTSIDE_LIMITS])
        # Outside the limits and too wide.
        self.assertEqual(graph_pebbling_number(5, PATH_OF_FIVE + [3, 4]), [OUTSIDE_LIMITS])
        self.assertEqual(graph_pebbling_number(6, PATH_OF_FIVE + [4, 5]), [OUTSIDE_LIMITS])
        # Within the limits.
        self.assertEqual(graph_pebbling_number(5, PATH_OF_FOUR), [NOT_CONNECTED])
        self.assertEqual(graph_pebbling_number(5, PATH_OF_FIVE), [TOO_WIDE])


class LeavesNoTrace(NothingIsKept, unittest.TestCase):
    answer = staticmethod(graph_pebbling_number)
    calls = [(3, [0, 1, 1, 2]), (1, []), (4, PATH_OF_FOUR), (5, COMPLETE_FIVE)] + [
        (vertex_count, edges) for vertex_count, edges, _ in REFUSED_GRAPHS
    ]


if __name__ == "__main__":
    unittest.main()
