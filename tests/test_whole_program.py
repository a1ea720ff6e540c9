import io
import subprocess
import sys
import unittest
from contextlib import redirect_stderr, redirect_stdout
from inspect import Parameter, signature
from itertools import product

from graph_cases import (
    COMPLETE_FIVE, LARGEST_HANDED_IN, MOST_PEBBLES, NO_SUCH_INDEX, NO_SUCH_TARGET, NOT_A_TREE, NOT_CONNECTED,
    OUTSIDE_LIMITS, PATH_OF_FIVE, PATH_OF_FOUR, TOO_WIDE, UnchangeableList, accepted_graphs, distances,
    is_tree_by_terms, reaches, with_one_more_edge,
)
from pebblemoves import pebbling
from pebblemoves.pebbling import (
    count_unsolvable, diameter, graph_pebbling_number, path_partition, pebbling_number, unsolvable_configuration,
)

OPERATIONS = (
    pebbling_number, graph_pebbling_number, count_unsolvable, unsolvable_configuration, path_partition, diameter,
)

PATH_OF_THREE = [0, 1, 1, 2]
TRIANGLE = [0, 1, 0, 2, 1, 2]

# Each with its answer, whatever was called before it.
CALLS = [
    (pebbling_number, (3, 0, PATH_OF_THREE), [4]),
    (pebbling_number, (4, 1, PATH_OF_FOUR), [5]),
    (pebbling_number, (3, 3, PATH_OF_THREE), [NO_SUCH_TARGET]),
    (pebbling_number, (3, 0, [0, 1]), [NOT_CONNECTED]),
    (graph_pebbling_number, (3, PATH_OF_THREE), [4]),
    (graph_pebbling_number, (5, COMPLETE_FIVE), [5]),
    (graph_pebbling_number, (5, PATH_OF_FIVE), [TOO_WIDE]),
    (count_unsolvable, (3, 0, 3, PATH_OF_THREE), [1]),
    (count_unsolvable, (3, 1, 2, PATH_OF_THREE), [1]),
    (count_unsolvable, (3, 0, 11, PATH_OF_THREE), [OUTSIDE_LIMITS]),
    (unsolvable_configuration, (3, 0, 3, 0, PATH_OF_THREE), [3, 0, 0, 3]),
    (unsolvable_configuration, (3, 0, 2, 1, PATH_OF_THREE), [3, 0, 1, 1]),
    (unsolvable_configuration, (3, 0, 3, 1, PATH_OF_THREE), [NO_SUCH_INDEX]),
    (path_partition, (3, 1, PATH_OF_THREE), [3, 1, 1]),
    (path_partition, (4, 1, PATH_OF_FOUR), [5, 2, 1]),
    (path_partition, (1, 0, []), [1]),
    (path_partition, (3, 0, TRIANGLE), [NOT_A_TREE]),
    (diameter, (3, PATH_OF_THREE), [2]),
    (diameter, (5, PATH_OF_FIVE), [4]),
    (diameter, (1, []), [0]),
    (diameter, (0, []), [OUTSIDE_LIMITS]),
]


class Interface(unittest.TestCase):
    def test_names_and_arguments(self):
        arguments = {
            "pebbling_number": ["vertex_count", "target", "edges"],
            "graph_pebbling_number": ["vertex_count", "edges"],
            "count_unsolvable": ["vertex_count", "target", "pebbles", "edges"],
            "unsolvable_configuration": ["vertex_count", "target", "pebbles", "index", "edges"],
            "path_partition": ["vertex_count", "target", "edges"],
            "diameter": ["vertex_count", "edges"],
        }
        for name, expected in arguments.items():
            with self.subTest(name=name):
                parameters = signature(getattr(pebbling, name)).parameters.values()
                self.assertEqual([parameter.name for parameter in parameters], expected)
                for parameter in parameters:
                    self.assertIs(parameter.kind, Parameter.POSITIONAL_OR_KEYWORD)
                    self.assertIs(parameter.default, Parameter.empty)


class Examples(unittest.TestCase):
    def test_every_call_of_the_examples(self):
        self.assertEqual(pebbling_number(3, 0, [0, 1, 1, 2]), [4])
        self.assertEqual(count_unsolvable(3, 0, 3, [0, 1, 1, 2]), [1])
        self.assertEqual(unsolvable_configuration(3, 0, 3, 0, [0, 1, 1, 2]), [3, 0, 0, 3])
        self.assertEqual(path_partition(3, 1, [0, 1, 1, 2]), [3, 1, 1])
        self.assertEqual(pebbling_number(3, 0, [0, 1]), [-33])


class Requirements(unittest.TestCase):
    """Every accepted graph of 1 to 5 vertices and every target."""

    @classmethod
    def setUpClass(cls):
        cls.numbers = {}
        cls.graph_numbers = {}
        for vertex_count, edges in accepted_graphs():
            cls.graph_numbers[vertex_count, tuple(edges)] = graph_pebbling_number(vertex_count, edges)[0]
            for target in range(vertex_count):
                number = pebbling_number(vertex_count, target, edges)[0]
                cls.numbers[vertex_count, target, tuple(edges)] = number

    def test_with_so_many_pebbles_every_configuration_reaches(self):
        for (vertex_count, target, edges), number in self.numbers.items():
            with self.subTest(vertex_count=vertex_count, target=target, edges=edges):
                self.assertEqual(count_unsolvable(vertex_count, target, number, list(edges)), [0])
                answer = unsolvable_configuration(vertex_count, target, number, 0, list(edges))
                self.assertEqual(answer, [NO_SUCH_INDEX])

    def test_with_more_pebbles_every_configuration_reaches(self):
        for (vertex_count, target, edges), number in self.numbers.items():
            with self.subTest(vertex_count=vertex_count, target=target, edges=edges):
                self.assertLess(number, MOST_PEBBLES)
                self.assertEqual(count_unsolvable(vertex_count, target, number + 1, list(edges)), [0])
                self.assertEqual(count_unsolvable(vertex_count, target, MOST_PEBBLES, list(edges)), [0])

    def test_with_one_pebble_fewer_there_is_an_unsolvable_configuration(self):
        for (vertex_count, target, edges), number in self.numbers.items():
            if number > 1:
                with self.subTest(vertex_count=vertex_count, target=target, edges=edges):
                    answer = unsolvable_configuration(vertex_count, target, number - 1, 0, list(edges))
                    self.assertEqual(answer[0], vertex_count)
                    self.assertEqual(sum(answer[1:]), number - 1)
                    self.assertFalse(reaches(answer[1:], target, edges))

    def test_a_graph_has_the_largest_number_of_its_vertices(self):
        for (vertex_count, edges), largest in self.graph_numbers.items():
            with self.subTest(vertex_count=vertex_count, edges=edges):
                numbers = [self.numbers[vertex_count, target, edges] for target in range(vertex_count)]
                self.assertEqual(largest, max(numbers))

    def test_at_least_the_number_of_vertices(self):
        for (vertex_count, target, edges), number in self.numbers.items():
            with self.subTest(vertex_count=vertex_count, target=target, edges=edges):
                self.assertGreaterEqual(number, vertex_count)

    def test_at_least_two_to_the_power_of_each_distance(self):
        for (vertex_count, target, edges), number in self.numbers.items():
            with self.subTest(vertex_count=vertex_count, target=target, edges=edges):
                for distance in distances(vertex_count, edges)[target]:
                    self.assertGreaterEqual(number, 2 ** distance)

    def test_a_graph_needs_at_least_two_to_the_power_of_its_diameter(self):
        for (vertex_count, edges), number in self.graph_numbers.items():
            with self.subTest(vertex_count=vertex_count, edges=edges):
                self.assertGreaterEqual(number, 2 ** diameter(vertex_count, list(edges))[0])

    def test_path_partition_of_a_tree_has_its_pebbling_number(self):
        for (vertex_count, target, edges), number in self.numbers.items():
            if is_tree_by_terms(vertex_count, edges):
                with self.subTest(vertex_count=vertex_count, target=target, edges=edges):
                    self.assertEqual(path_partition(vertex_count, target, list(edges))[0], number)

    def test_an_additional_edge_never_increases_the_number(self):
        for (vertex_count, target, edges), number in self.numbers.items():
            for more in with_one_more_edge(vertex_count, edges):
                with self.subTest(vertex_count=vertex_count, target=target, edges=edges, more=more):
                    self.assertLessEqual(self.numbers[vertex_count, target, tuple(more)], number)

    def test_an_additional_edge_never_increases_the_number_of_the_graph(self):
        for (vertex_count, edges), number in self.graph_numbers.items():
            for more in with_one_more_edge(vertex_count, edges):
                with self.subTest(vertex_count=vertex_count, edges=edges, more=more):
                    self.assertLessEqual(self.graph_numbers[vertex_count, tuple(more)], number)


class CallsInTurn(unittest.TestCase):
    def check(self, call, edges):
        operation, handed_in, expected = call
        with self.subTest(operation=operation.__name__, handed_in=handed_in):
            self.assertEqual(operation(*handed_in[:-1], edges), expected)

    def test_each_operation_is_among_the_calls(self):
        self.assertEqual({operation for operation, _, _ in CALLS}, set(OPERATIONS))

    def test_every_call_behind_every_other(self):
        for earlier, later in product(CALLS, CALLS):
            for call in (earlier, later):
                self.check(call, list(call[1][-1]))

    def test_all_calls_there_and_back(self):
        for call in CALLS + CALLS[::-1]:
            self.check(call, list(call[1][-1]))

    def test_one_list_handed_in_to_all_operations(self):
        edges = UnchangeableList(PATH_OF_THREE)
        for call in CALLS + CALLS[::-1]:
            if call[1][0] == 3 and call[1][-1] == PATH_OF_THREE:
                self.check(call, edges)
        self.assertEqual(list(edges), PATH_OF_THREE)

    def test_one_list_changed_by_the_caller_between_the_calls(self):
        edges = []
        for call in CALLS + CALLS[::-1]:
            edges[:] = call[1][-1]
            self.check(call, edges)

    def test_an_answer_changed_by_the_caller(self):
        for call in CALLS:
            operation, handed_in, _ = call
            operation(*handed_in).append(LARGEST_HANDED_IN)
            self.check(call, list(handed_in[-1]))


class NothingIsPrinted(unittest.TestCase):
    def test_calls_print_nothing(self):
        printed = io.StringIO()
        with redirect_stdout(printed), redirect_stderr(printed):
            for operation, handed_in, _ in CALLS:
                operation(*handed_in)
        self.assertEqual(printed.getvalue(), "")

    def test_the_import_prints_nothing(self):
        done = subprocess.run(
            [sys.executable, "-c", "import pebblemoves.pebbling"], stdin=subprocess.DEVNULL, capture_output=True,
        )
        self.assertEqual((done.returncode, done.stdout, done.stderr), (0, b"", b""))


if __name__ == "__main__":
    unittest.main()
