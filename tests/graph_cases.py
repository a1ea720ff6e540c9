"""What the tests share: graphs, refused graphs, and the words of the document done step by step."""

from functools import lru_cache
from itertools import combinations, combinations_with_replacement, permutations

LARGEST_HANDED_IN = 4294967295
MOST_PEBBLES = 10
OUTSIDE_LIMITS = -22
NOT_CONNECTED = -33
TOO_WIDE = -75
NO_SUCH_TARGET = -2
NO_SUCH_INDEX = -33
NOT_A_TREE = -33

PATH_OF_FOUR = [0, 1, 1, 2, 2, 3]
PATH_OF_FIVE = [0, 1, 1, 2, 2, 3, 3, 4]
COMPLETE_FIVE = [0, 1, 0, 2, 0, 3, 0, 4, 1, 2, 1, 3, 1, 4, 2, 3, 2, 4, 3, 4]

# What each of these is refused for is told once; several of them are also not connected or too wide.
OUTSIDE_LIMITS_GRAPHS = [
    # vertex_count
    (0, []),
    (0, [0, 1]),
    (6, []),
    (6, [0, 1, 0, 2, 0, 3, 0, 4, 0, 5]),
    (6, PATH_OF_FIVE + [4, 5]),
    (LARGEST_HANDED_IN, []),
    (LARGEST_HANDED_IN, [0, 1, 1, 2]),
    # an odd length
    (1, [0]),
    (2, [0]),
    (2, [0, 1, 1]),
    (3, [0, 1, 1, 2, 2]),
    (3, [0, 1, 2]),
    (5, PATH_OF_FIVE + [4]),
    (5, COMPLETE_FIVE + [4]),
    # u = v
    (1, [0, 0]),
    (2, [0, 0, 0, 1]),
    (2, [0, 1, 1, 1]),
    (3, [0, 1, 1, 2, 2, 2]),
    # u > v
    (2, [1, 0]),
    (3, [0, 1, 2, 1]),
    (3, [0, 1, 0, 2, 2, 1]),
    # an end that is no vertex
    (1, [0, 1]),
    (3, [0, 1, 1, 3]),
    (3, [0, 1, 1, 2, 2, 3]),
    (3, [0, 1, 1, 2, 3, 4]),
    (4, PATH_OF_FIVE),
    (5, PATH_OF_FOUR + [3, 5]),
    (2, [0, 1, 1, LARGEST_HANDED_IN]),
    (2, [0, 1, LARGEST_HANDED_IN - 1, LARGEST_HANDED_IN]),
    (2, [0, 1, LARGEST_HANDED_IN, 1]),
    # out of order
    (3, [1, 2, 0, 1]),
    (3, [0, 2, 0, 1]),
    (3, [0, 1, 1, 2, 0, 2]),
    (4, [0, 1, 2, 3, 1, 2]),
    (5, [0, 1, 1, 2, 3, 4, 2, 3]),
    # repeated
    (2, [0, 1, 0, 1]),
    (3, [0, 1, 1, 2, 1, 2]),
    (3, [0, 1, 0, 1, 1, 2]),
    # 22 numbers
    (5, COMPLETE_FIVE + [3, 4]),
    (5, COMPLETE_FIVE + [4, 5]),
    (5, [0, 1] + COMPLETE_FIVE),
    (5, [0] * 22),
    (5, [0, 1] * 11),
    (1, [LARGEST_HANDED_IN] * 22),
    (LARGEST_HANDED_IN, [LARGEST_HANDED_IN] * 22),
]

NOT_CONNECTED_GRAPHS = [
    (2, []),
    (3, [0, 1]),
    (3, [0, 2]),
    (3, [1, 2]),
    (4, [0, 1, 2, 3]),
    (4, [0, 1, 0, 2, 1, 2]),
    (5, []),
    (5, PATH_OF_FOUR),
    (5, [1, 2, 2, 3, 3, 4]),
    (5, [0, 1, 0, 2, 1, 2, 3, 4]),
]

TOO_WIDE_GRAPHS = [
    (5, PATH_OF_FIVE),
    (5, [0, 2, 0, 4, 1, 3, 1, 4]),
]

REFUSED_GRAPHS = (
    [graph + (OUTSIDE_LIMITS,) for graph in OUTSIDE_LIMITS_GRAPHS]
    + [graph + (NOT_CONNECTED,) for graph in NOT_CONNECTED_GRAPHS]
    + [graph + (TOO_WIDE,) for graph in TOO_WIDE_GRAPHS]
)


class UnchangeableList(list):
    """A list that fails the test that lets it be changed, if only for a while."""

    def refuse(self, *args, **kwargs):
        raise AssertionError("what was handed in is changed")

    append = clear = extend = insert = pop = remove = reverse = sort = refuse
    __setitem__ = __delitem__ = __iadd__ = __imul__ = refuse


def pairs_of(edges):
    return list(zip(edges[0::2], edges[1::2]))


def flat(pairs):
    return [end for pair in pairs for end in pair]


def all_graphs():
    """Every graph of 1 to 5 vertices, as (vertex_count, edges)."""
    for vertex_count in range(1, 6):
        possible = list(combinations(range(vertex_count), 2))
        for size in range(len(possible) + 1):
            for pairs in combinations(possible, size):
                yield vertex_count, flat(pairs)


def distances(vertex_count, edges):
    """The distances between all vertices; vertex_count stands where no path leads."""
    table = [[0 if u == v else vertex_count for v in range(vertex_count)] for u in range(vertex_count)]
    for u, v in pairs_of(edges):
        table[u][v] = table[v][u] = 1
    for middle in range(vertex_count):
        for u in range(vertex_count):
            for v in range(vertex_count):
                table[u][v] = min(table[u][v], table[u][middle] + table[middle][v])
    return table


def refusal_of(vertex_count, edges):
    """The refusal of a graph within its limits, None if there is none."""
    largest = max(max(row) for row in distances(vertex_count, edges))
    if largest == vertex_count:
        return NOT_CONNECTED
    return TOO_WIDE if largest > 3 else None


def accepted_graphs():
    """Every connected graph of 1 to 5 vertices with a diameter of at most 3."""
    return [graph for graph in all_graphs() if refusal_of(*graph) is None]


def is_tree_by_terms(vertex_count, edges):
    """Whether a connected graph has one edge fewer than vertices."""
    return len(pairs_of(edges)) == vertex_count - 1


def reaches(configuration, target, edges):
    """Whether some sequence of moves leads to a pebble on the target."""
    waiting = [tuple(configuration)]
    seen = set(waiting)
    while waiting:
        here = waiting.pop()
        if here[target] >= 1:
            return True
        for u, v in pairs_of(edges):
            for start, end in ((u, v), (v, u)):
                if here[start] >= 2:
                    there = list(here)
                    there[start] -= 2
                    there[end] += 1
                    if tuple(there) not in seen:
                        seen.add(tuple(there))
                        waiting.append(tuple(there))
    return False


def placings(vertex_count, pebbles):
    """Every configuration with this number of pebbles, in no order that matters."""
    for placing in combinations_with_replacement(range(vertex_count), pebbles):
        yield tuple(placing.count(vertex) for vertex in range(vertex_count))


@lru_cache(maxsize=None)
def plainest_renaming(vertex_count, edges):
    """The new names of the vertices with which the edges come first, and those edges; edges is a tuple here."""
    renamings = []
    for names in permutations(range(vertex_count)):
        pairs = sorted(tuple(sorted((names[u], names[v]))) for u, v in pairs_of(edges))
        renamings.append((tuple(flat(pairs)), names))
    renamed, names = min(renamings)
    return names, renamed


@lru_cache(maxsize=None)
def searched_unsolvable(vertex_count, target, pebbles, edges):
    """The configurations from which a plain search doesn't reach the target; edges is a tuple here."""
    return [
        configuration for configuration in placings(vertex_count, pebbles)
        if not reaches(configuration, target, edges)
    ]


def unsolvable_by_terms(vertex_count, target, pebbles, edges):
    """The sorted unsolvable configurations, as lists; edges is a tuple here."""
    # Other names for the vertices change nothing but the names, so one graph of each shape is searched.
    names, renamed = plainest_renaming(vertex_count, edges)
    found = searched_unsolvable(vertex_count, names[target], pebbles, renamed)
    return sorted([configuration[name] for name in names] for configuration in found)


def every_configuration_reaches(vertex_count, target, pebbles, edges):
    """Whether the target is reachable however the pebbles are placed; edges is a tuple here."""
    return unsolvable_by_terms(vertex_count, target, pebbles, edges) == []


def number_by_terms(vertex_count, target, edges):
    """The smallest positive number of pebbles without an unsolvable configuration; edges is a tuple here."""
    pebbles = 1
    while not every_configuration_reaches(vertex_count, target, pebbles, edges):
        pebbles += 1
    return pebbles


def with_one_more_edge(vertex_count, edges):
    """Each graph that has one edge more than this one."""
    pairs = pairs_of(edges)
    for pair in combinations(range(vertex_count), 2):
        if pair not in pairs:
            yield flat(sorted(pairs + [pair]))


class NothingIsKept:
    """For a test class that names the function as answer, and its calls, each with the edges last."""

    def test_what_is_handed_in_stays_as_it_was(self):
        for call in self.calls:
            with self.subTest(call=call):
                edges = UnchangeableList(call[-1])
                self.answer(*call[:-1], edges)
                self.assertEqual(list(edges), call[-1])

    def test_the_same_call_twice_answers_the_same(self):
        first = [self.answer(*call) for call in self.calls]
        self.assertEqual([self.answer(*call) for call in self.calls], first)

    def test_an_answer_is_a_new_list_each_time(self):
        for call in self.calls:
            with self.subTest(call=call):
                first = self.answer(*call)
                expected = list(first)
                first.append(0)
                self.assertEqual(self.answer(*call), expected)
