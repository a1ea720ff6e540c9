import unittest
from math import comb

from graph_cases import (
    COMPLETE_FIVE, LARGEST_HANDED_IN, MOST_PEBBLES, NO_SUCH_TARGET, NOT_CONNECTED, OUTSIDE_LIMITS, PATH_OF_FIVE,
    PATH_OF_FOUR, REFUSED_GRAPHS, TOO_WIDE, NothingIsKept, accepted_graphs, all_graphs, refusal_of,
    unsolvable_by_terms,
)
from pebblemoves.pebbling import count_unsolvable, pebbling_number

TOO_MANY_PEBBLES = (MOST_PEBBLES + 1, MOST_PEBBLES + 2, LARGEST_HANDED_IN)


class Examples(unittest.TestCase):
    def test_example_of_the_document(self):
        self.assertEqual(count_unsolvable(3, 0, 3, [0, 1, 1, 2]), [1])


class KnownCounts(unittest.TestCase):
    def check(self, vertex_count, target, edges, counts):
        """The counts from 0 pebbles on; behind the last of them there is no unsolvable configuration."""
        counts = counts + [0] * (MOST_PEBBLES + 1 - len(counts))
        answers = [count_unsolvable(vertex_count, target, pebbles, edges) for pebbles in range(MOST_PEBBLES + 1)]
        self.assertEqual(answers, [[count] for count in counts])

    def test_one_vertex_without_edges(self):
        self.check(1, 0, [], [1])

    def test_two_vertices(self):
        self.check(2, 0, [0, 1], [1, 1])
        self.check(2, 1, [0, 1], [1, 1])

    def test_path_of_three(self):
        # From an end: 010 001, 011 002, 003. From the middle: 100 001, 101.
        self.check(3, 0, [0, 1, 1, 2], [1, 2, 2, 1])
        self.check(3, 1, [0, 1, 1, 2], [1, 2, 1])
        self.check(3, 2, [0, 1, 1, 2], [1, 2, 2, 1])

    def test_triangle(self):
        # 010 001, 011.
        self.check(3, 0, [0, 1, 0, 2, 1, 2], [1, 2, 1])

    def test_path_of_four_has_the_largest_diameter(self):
        self.check(4, 0, PATH_OF_FOUR, [1, 3, 5, 6, 5, 3, 2, 1])

    def test_one_pebble_on_each_vertex_but_the_target_of_a_complete_graph(self):
        for target in range(5):
            self.check(5, target, COMPLETE_FIVE, [1, 4, 6, 4, 1])


class EveryGraph(unittest.TestCase):
    """Every accepted graph of 1 to 5 vertices, every target, and pebbles from 0 to 10."""

    @classmethod
    def setUpClass(cls):
        cls.answers = {}
        for vertex_count, edges in accepted_graphs():
            for target in range(vertex_count):
                cls.answers[vertex_count, target, tuple(edges)] = [
                    count_unsolvable(vertex_count, target, pebbles, edges) for pebbles in range(MOST_PEBBLES + 1)
                ]

    def test_one_whole_number_is_answered(self):
        for call, answers in self.answers.items():
            with self.subTest(call=call):
                for answer in answers:
                    self.assertIs(type(answer), list)
                    self.assertEqual([type(number) for number in answer], [int])

    def test_count_by_terms(self):
        for (vertex_count, target, edges), answers in self.answers.items():
            with self.subTest(vertex_count=vertex_count, target=target, edges=edges):
                for pebbles, answer in enumerate(answers):
                    unsolvable = unsolvable_by_terms(vertex_count, target, pebbles, edges)
                    self.assertEqual(answer, [len(unsolvable)])

    def test_without_pebbles_no_vertex_is_reached(self):
        for call, answers in self.answers.items():
            with self.subTest(call=call):
                self.assertEqual(answers[0], [1])

    def test_exactness(self):
        for (vertex_count, target, edges), answers in self.answers.items():
            with self.subTest(vertex_count=vertex_count, target=target, edges=edges):
                number = pebbling_number(vertex_count, target, list(edges))[0]
                for answer in answers[number:]:
                    self.assertEqual(answer, [0])
                if number > 1:
                    self.assertGreater(answers[number - 1][0], 0)

    def test_no_more_than_the_configurations_without_a_pebble_on_the_target(self):
        for (vertex_count, target, edges), answers in self.answers.items():
            if vertex_count > 1:
                with self.subTest(vertex_count=vertex_count, target=target, edges=edges):
                    for pebbles, (count,) in enumerate(answers):
                        self.assertLessEqual(count, comb(pebbles + vertex_count - 2, pebbles))


class Refusals(unittest.TestCase):
    def test_refused_graphs_with_any_target_and_pebbles(self):
        for vertex_count, edges, refusal in REFUSED_GRAPHS:
            for target in (0, 1, vertex_count, LARGEST_HANDED_IN):
                for pebbles in (0, 3, MOST_PEBBLES) + TOO_MANY_PEBBLES:
                    with self.subTest(vertex_count=vertex_count, target=target, pebbles=pebbles, edges=edges):
                        self.assertEqual(count_unsolvable(vertex_count, target, pebbles, edges), [refusal])

    def test_every_graph_within_its_limits(self):
        for vertex_count, edges in all_graphs():
            refusal = refusal_of(vertex_count, edges)
            if refusal is not None:
                for target in range(vertex_count + 1):
                    with self.subTest(vertex_count=vertex_count, target=target, edges=edges):
                        self.assertEqual(count_unsolvable(vertex_count, target, 2, edges), [refusal])

    def test_target_that_does_not_exist(self):
        for vertex_count, edges in accepted_graphs():
            for target in (vertex_count, vertex_count + 1, LARGEST_HANDED_IN):
                for pebbles in (0, MOST_PEBBLES) + TOO_MANY_PEBBLES:
                    with self.subTest(vertex_count=vertex_count, target=target, pebbles=pebbles, edges=edges):
                        answer = count_unsolvable(vertex_count, target, pebbles, edges)
                        self.assertEqual(answer, [NO_SUCH_TARGET])

    def test_too_many_pebbles(self):
        for vertex_count, edges in accepted_graphs():
            for target in range(vertex_count):
                for pebbles in TOO_MANY_PEBBLES:
                    with self.subTest(vertex_count=vertex_count, target=target, pebbles=pebbles, edges=edges):
                        answer = count_unsolvable(vertex_count, target, pebbles, edges)
                        self.assertEqual(answer, [OUTSIDE_LIMITS])

    def test_order_of_the_refusals(self):
        # The graph is told of before the target and the pebbles.
        self.assertEqual(count_unsolvable(3, 3, 11, [0, 0]), [OUTSIDE_LIMITS])
        self.assertEqual(count_unsolvable(5, 0, 0, PATH_OF_FIVE + [3, 4]), [OUTSIDE_LIMITS])
        self.assertEqual(count_unsolvable(3, 3, 11, [0, 1]), [NOT_CONNECTED])
        self.assertEqual(count_unsolvable(3, 0, 11, [0, 1]), [NOT_CONNECTED])
        self.assertEqual(count_unsolvable(5, 5, 11, PATH_OF_FIVE), [TOO_WIDE])
        self.assertEqual(count_unsolvable(5, 0, 11, PATH_OF_FIVE), [TOO_WIDE])
        # The target is told of before the pebbles.
        self.assertEqual(count_unsolvable(3, 3, 11, [0, 1, 1, 2]), [NO_SUCH_TARGET])
        self.assertEqual(count_unsolvable(3, 2, 11, [0, 1, 1, 2]), [OUTSIDE_LIMITS])


class LeavesNoTrace(NothingIsKept, unittest.TestCase):
    answer = staticmethod(count_unsolvable)
    calls = [
        (3, 0, 3, [0, 1, 1, 2]), (3, 0, 2, [0, 1, 1, 2]), (1, 0, 0, []), (1, 0, 1, []), (4, 3, 10, PATH_OF_FOUR),
        (4, 0, 7, PATH_OF_FOUR), (3, 3, 3, [0, 1, 1, 2]), (3, 0, 11, [0, 1, 1, 2]),
    ] + [(vertex_count, 0, 3, edges) for vertex_count, edges, _ in REFUSED_GRAPHS]


if __name__ == "__main__":
    unittest.main()
