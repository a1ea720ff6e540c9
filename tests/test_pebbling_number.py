import unittest

from graph_cases import (
    COMPLETE_FIVE, LARGEST_HANDED_IN, NO_SUCH_TARGET, NOT_CONNECTED, OUTSIDE_LIMITS, PATH_OF_FIVE, PATH_OF_FOUR,
    REFUSED_GRAPHS, TOO_WIDE, NothingIsKept, accepted_graphs, all_graphs, distances, every_configuration_reaches,
    number_by_terms, refusal_of, with_one_more_edge,
)
from pebblemoves.pebbling import pebbling_number


class Examples(unittest.TestCase):
    def test_examples_of_the_document(self):
        self.assertEqual(pebbling_number(3, 0, [0, 1, 1, 2]), [4])
        self.assertEqual(pebbling_number(3, 0, [0, 1]), [-33])


class KnownNumbers(unittest.TestCase):
    def check(self, vertex_count, edges, numbers):
        answers = [pebbling_number(vertex_count, target, edges) for target in range(vertex_count)]
        self.assertEqual(answers, [[number] for number in numbers])

    def test_one_vertex_without_edges(self):
        self.check(1, [], [1])

    def test_two_vertices(self):
        self.check(2, [0, 1], [2, 2])

    def test_path_of_three(self):
        self.check(3, [0, 1, 1, 2], [4, 3, 4])

    def test_triangle(self):
        self.check(3, [0, 1, 0, 2, 1, 2], [3, 3, 3])

    def test_path_of_four_has_the_largest_diameter(self):
        self.check(4, PATH_OF_FOUR, [8, 5, 5, 8])

    def test_largest_diameter_with_five_vertices(self):
        self.check(5, [0, 1, 1, 2, 2, 3, 2, 4], [9, 6, 6, 9, 9])

    def test_cycles(self):
        self.check(4, [0, 1, 0, 3, 1, 2, 2, 3], [4, 4, 4, 4])
        self.check(5, [0, 1, 0, 4, 1, 2, 2, 3, 3, 4], [5, 5, 5, 5, 5])

    def test_star(self):
        self.check(5, [0, 1, 0, 2, 0, 3, 0, 4], [5, 6, 6, 6, 6])

    def test_complete_graph(self):
        self.check(5, COMPLETE_FIVE, [5, 5, 5, 5, 5])


class EveryGraph(unittest.TestCase):
    """Every accepted graph of 1 to 5 vertices and every target."""

    @classmethod
    def setUpClass(cls):
        cls.numbers = {}
        for vertex_count, edges in accepted_graphs():
            for target in range(vertex_count):
                cls.numbers[vertex_count, target, tuple(edges)] = pebbling_number(vertex_count, target, edges)

    def test_one_whole_number_is_answered(self):
        for call, answer in self.numbers.items():
            with self.subTest(call=call):
                self.assertIs(type(answer), list)
                self.assertEqual([type(number) for number in answer], [int])

    def test_number_by_terms(self):
        for (vertex_count, target, edges), answer in self.numbers.items():
            with self.subTest(vertex_count=vertex_count, target=target, edges=edges):
                self.assertEqual(answer, [number_by_terms(vertex_count, target, edges)])

    def test_exactness(self):
        for (vertex_count, target, edges), (number,) in self.numbers.items():
            with self.subTest(vertex_count=vertex_count, target=target, edges=edges):
                self.assertTrue(every_configuration_reaches(vertex_count, target, number, edges))
                self.assertTrue(every_configuration_reaches(vertex_count, target, number + 1, edges))
                if number > 1:
                    self.assertFalse(every_configuration_reaches(vertex_count, target, number - 1, edges))

    def test_lower_bounds(self):
        for (vertex_count, target, edges), (number,) in self.numbers.items():
            with self.subTest(vertex_count=vertex_count, target=target, edges=edges):
                self.assertGreaterEqual(number, vertex_count)
                self.assertGreaterEqual(number, 2 ** max(distances(vertex_count, edges)[target]))

    def test_an_additional_edge_never_increases_the_number(self):
        for (vertex_count, target, edges), (number,) in self.numbers.items():
            for more in with_one_more_edge(vertex_count, edges):
                with self.subTest(vertex_count=vertex_count, target=target, edges=edges, more=more):
                    self.assertLessEqual(self.numbers[vertex_count, target, tuple(more)][0], number)


class Refusals(unittest.TestCase):
    def test_refused_graphs_with_any_target(self):
        for vertex_count, edges, refusal in REFUSED_GRAPHS:
            for target in (0, 1, 4, vertex_count, LARGEST_HANDED_IN):
                with self.subTest(vertex_count=vertex_count, target=target, edges=edges):
                    self.assertEqual(pebbling_number(vertex_count, target, edges), [refusal])

    def test_every_graph_within_its_limits(self):
        for vertex_count, edges in all_graphs():
            refusal = refusal_of(vertex_count, edges)
            if refusal is not None:
                for target in range(vertex_count + 1):
                    with self.subTest(vertex_count=vertex_count, target=target, edges=edges):
                        self.assertEqual(pebbling_number(vertex_count, target, edges), [refusal])

    def test_target_that_does_not_exist(self):
        for vertex_count, edges in accepted_graphs():
            for target in (vertex_count, vertex_count + 1, LARGEST_HANDED_IN):
                with self.subTest(vertex_count=vertex_count, target=target, edges=edges):
                    self.assertEqual(pebbling_number(vertex_count, target, edges), [NO_SUCH_TARGET])

    def test_order_of_the_refusals(self):
        # Outside the limits and not connected, then with a wrong target too.
        self.assertEqual(pebbling_number(3, 0, [0, 0]), [OUTSIDE_LIMITS])
        self.assertEqual(pebbling_number(3, 3, [0, 0]), [OUTSIDE_LIMITS])
        # Outside the limits and too wide.
        self.assertEqual(pebbling_number(5, 0, PATH_OF_FIVE + [3, 4]), [OUTSIDE_LIMITS])
        self.assertEqual(pebbling_number(6, 0, PATH_OF_FIVE + [4, 5]), [OUTSIDE_LIMITS])
        # A wrong target is told of last.
        self.assertEqual(pebbling_number(3, 3, [0, 1]), [NOT_CONNECTED])
        self.assertEqual(pebbling_number(5, 5, PATH_OF_FIVE), [TOO_WIDE])
        self.assertEqual(pebbling_number(0, 0, []), [OUTSIDE_LIMITS])


class LeavesNoTrace(NothingIsKept, unittest.TestCase):
    answer = staticmethod(pebbling_number)
    calls = [(3, 0, [0, 1, 1, 2]), (1, 0, []), (4, 3, PATH_OF_FOUR), (3, 3, [0, 1, 1, 2])] + [
        (vertex_count, 0, edges) for vertex_count, edges, _ in REFUSED_GRAPHS
    ]


if __name__ == "__main__":
    unittest.main()
