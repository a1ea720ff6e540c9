import unittest

from graph_cases import (
    COMPLETE_FIVE, LARGEST_HANDED_IN, MOST_PEBBLES, NO_SUCH_INDEX, NO_SUCH_TARGET, NOT_CONNECTED, OUTSIDE_LIMITS,
    PATH_OF_FIVE, PATH_OF_FOUR, REFUSED_GRAPHS, TOO_WIDE, NothingIsKept, accepted_graphs, all_graphs, refusal_of,
    unsolvable_by_terms,
)
from pebblemoves.pebbling import count_unsolvable, unsolvable_configuration

TOO_MANY_PEBBLES = (MOST_PEBBLES + 1, MOST_PEBBLES + 2, LARGEST_HANDED_IN)


class Examples(unittest.TestCase):
    def test_example_of_the_document(self):
        self.assertEqual(unsolvable_configuration(3, 0, 3, 0, [0, 1, 1, 2]), [3, 0, 0, 3])


class KnownConfigurations(unittest.TestCase):
    def check(self, vertex_count, target, pebbles, edges, configurations):
        """These from index 0 on, and none behind the last of them."""
        for index, configuration in enumerate(configurations):
            answer = unsolvable_configuration(vertex_count, target, pebbles, index, edges)
            self.assertEqual(answer, [vertex_count] + configuration)
        for index in (len(configurations), len(configurations) + 1, LARGEST_HANDED_IN):
            answer = unsolvable_configuration(vertex_count, target, pebbles, index, edges)
            self.assertEqual(answer, [NO_SUCH_INDEX])

    def test_one_vertex_without_edges(self):
        self.check(1, 0, 0, [], [[0]])
        for pebbles in range(1, MOST_PEBBLES + 1):
            self.check(1, 0, pebbles, [], [])

    def test_without_pebbles(self):
        self.check(2, 1, 0, [0, 1], [[0, 0]])
        self.check(3, 0, 0, [0, 1, 1, 2], [[0, 0, 0]])
        self.check(5, 4, 0, COMPLETE_FIVE, [[0, 0, 0, 0, 0]])

    def test_two_vertices(self):
        self.check(2, 0, 1, [0, 1], [[0, 1]])
        self.check(2, 1, 1, [0, 1], [[1, 0]])
        self.check(2, 0, 2, [0, 1], [])

    def test_path_of_three(self):
        self.check(3, 0, 1, [0, 1, 1, 2], [[0, 0, 1], [0, 1, 0]])
        self.check(3, 0, 2, [0, 1, 1, 2], [[0, 0, 2], [0, 1, 1]])
        self.check(3, 0, 3, [0, 1, 1, 2], [[0, 0, 3]])
        self.check(3, 0, 4, [0, 1, 1, 2], [])
        self.check(3, 1, 2, [0, 1, 1, 2], [[1, 0, 1]])
        self.check(3, 2, 2, [0, 1, 1, 2], [[1, 1, 0], [2, 0, 0]])

    def test_path_of_four_has_the_largest_diameter(self):
        self.check(4, 0, 6, PATH_OF_FOUR, [[0, 0, 0, 6], [0, 0, 1, 5]])
        self.check(4, 0, 7, PATH_OF_FOUR, [[0, 0, 0, 7]])
        self.check(4, 3, 7, PATH_OF_FOUR, [[7, 0, 0, 0]])
        self.check(4, 3, 8, PATH_OF_FOUR, [])

    def test_cycle(self):
        self.check(4, 0, 3, [0, 1, 0, 3, 1, 2, 2, 3], [[0, 0, 3, 0], [0, 1, 1, 1]])

    def test_most_pebbles(self):
        self.check(5, 0, MOST_PEBBLES, [0, 1, 1, 2, 2, 3, 2, 4], [])


class EveryGraph(unittest.TestCase):
    """Every accepted graph of 1 to 5 vertices, every target, pebbles from 0 to 10, and every index."""

    @classmethod
    def setUpClass(cls):
        cls.answers = {}
        for vertex_count, edges in accepted_graphs():
            for target in range(vertex_count):
                for pebbles in range(MOST_PEBBLES + 1):
                    count = count_unsolvable(vertex_count, target, pebbles, edges)[0]
                    # The last of these indexes is the first behind the configurations.
                    cls.answers[vertex_count, target, pebbles, tuple(edges)] = [
                        unsolvable_configuration(vertex_count, target, pebbles, index, edges)
                        for index in range(count + 1)
                    ]

    def test_whole_numbers_are_answered(self):
        for call, answers in self.answers.items():
            with self.subTest(call=call):
                for answer in answers:
                    self.assertIs(type(answer), list)
                    self.assertEqual({type(number) for number in answer}, {int})

    def test_configurations_by_terms(self):
        for (vertex_count, target, pebbles, edges), answers in self.answers.items():
            with self.subTest(vertex_count=vertex_count, target=target, pebbles=pebbles, edges=edges):
                expected = [
                    [vertex_count] + configuration
                    for configuration in unsolvable_by_terms(vertex_count, target, pebbles, edges)
                ]
                self.assertEqual(answers, expected + [[NO_SUCH_INDEX]])

    def test_each_has_all_pebbles_and_none_on_the_target(self):
        for (vertex_count, target, pebbles, edges), answers in self.answers.items():
            with self.subTest(vertex_count=vertex_count, target=target, pebbles=pebbles, edges=edges):
                for first, *configuration in answers[:-1]:
                    self.assertEqual(first, vertex_count)
                    self.assertEqual(len(configuration), vertex_count)
                    self.assertEqual(sum(configuration), pebbles)
                    self.assertEqual(configuration[target], 0)

    def test_lexicographic_order_and_each_once(self):
        for call, answers in self.answers.items():
            with self.subTest(call=call):
                for earlier, later in zip(answers[:-2], answers[1:-1]):
                    self.assertLess(earlier, later)

    def test_no_index_further_behind_the_last(self):
        for (vertex_count, target, pebbles, edges), answers in self.answers.items():
            # The first index behind the last is asked for above, with every number of pebbles.
            if pebbles == 3:
                with self.subTest(vertex_count=vertex_count, target=target, pebbles=pebbles, edges=edges):
                    for index in (len(answers), LARGEST_HANDED_IN):
                        answer = unsolvable_configuration(vertex_count, target, pebbles, index, list(edges))
                        self.assertEqual(answer, [NO_SUCH_INDEX])


class Refusals(unittest.TestCase):
    def check(self, vertex_count, target, pebbles, index, edges, refusal):
        with self.subTest(vertex_count=vertex_count, target=target, pebbles=pebbles, index=index, edges=edges):
            self.assertEqual(unsolvable_configuration(vertex_count, target, pebbles, index, edges), [refusal])

    def test_refused_graphs_with_any_target_pebbles_and_index(self):
        for vertex_count, edges, refusal in REFUSED_GRAPHS:
            for target in (0, 1, vertex_count, LARGEST_HANDED_IN):
                for pebbles in (0, 3, MOST_PEBBLES) + TOO_MANY_PEBBLES:
                    for index in (0, 1, LARGEST_HANDED_IN):
                        self.check(vertex_count, target, pebbles, index, edges, refusal)

    def test_every_graph_within_its_limits(self):
        for vertex_count, edges in all_graphs():
            refusal = refusal_of(vertex_count, edges)
            if refusal is not None:
                for target in range(vertex_count + 1):
                    self.check(vertex_count, target, 2, 0, edges, refusal)

    def test_target_that_does_not_exist(self):
        for vertex_count, edges in accepted_graphs():
            for target in (vertex_count, vertex_count + 1, LARGEST_HANDED_IN):
                for pebbles in (0, MOST_PEBBLES) + TOO_MANY_PEBBLES:
                    for index in (0, LARGEST_HANDED_IN):
                        self.check(vertex_count, target, pebbles, index, edges, NO_SUCH_TARGET)

    def test_too_many_pebbles(self):
        for vertex_count, edges in accepted_graphs():
            for target in range(vertex_count):
                for pebbles in TOO_MANY_PEBBLES:
                    for index in (0, LARGEST_HANDED_IN):
                        self.check(vertex_count, target, pebbles, index, edges, OUTSIDE_LIMITS)

    def test_order_of_the_refusals(self):
        # The graph is told of before the target, the pebbles and the index.
        self.check(3, 3, 11, 1, [0, 0], OUTSIDE_LIMITS)
        self.check(5, 0, 0, 1, PATH_OF_FIVE + [3, 4], OUTSIDE_LIMITS)
        self.check(3, 3, 11, 1, [0, 1], NOT_CONNECTED)
        self.check(5, 5, 11, 1, PATH_OF_FIVE, TOO_WIDE)
        self.check(5, 0, 0, 1, PATH_OF_FIVE, TOO_WIDE)
        # The target is told of before the pebbles and the index.
        self.check(3, 3, 11, 1, [0, 1, 1, 2], NO_SUCH_TARGET)
        self.check(3, 3, 3, 1, [0, 1, 1, 2], NO_SUCH_TARGET)
        # The pebbles are told of before the index.
        self.check(3, 0, 11, 1, [0, 1, 1, 2], OUTSIDE_LIMITS)
        self.check(3, 0, 3, 1, [0, 1, 1, 2], NO_SUCH_INDEX)


class LeavesNoTrace(NothingIsKept, unittest.TestCase):
    answer = staticmethod(unsolvable_configuration)
    calls = [
        (3, 0, 3, 0, [0, 1, 1, 2]), (3, 0, 3, 1, [0, 1, 1, 2]), (1, 0, 0, 0, []), (1, 0, 0, 1, []), (1, 0, 1, 0, []),
        (4, 3, 7, 0, PATH_OF_FOUR), (3, 3, 3, 0, [0, 1, 1, 2]), (3, 0, 11, 0, [0, 1, 1, 2]),
    ] + [(vertex_count, 0, 3, 0, edges) for vertex_count, edges, _ in REFUSED_GRAPHS]


if __name__ == "__main__":
    unittest.main()
