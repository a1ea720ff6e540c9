"""How many pebbles are enough to reach a vertex by pebbling moves, however they are placed."""

from pebblemoves.graphs import OUTSIDE_LIMITS, connection_refusal, graph_refusal, is_tree, largest_distance
from pebblemoves.graphs import path_lengths, steps_of

NO_SUCH_TARGET = -2
NO_SUCH_INDEX = -33
NOT_A_TREE = -33

MOST_PEBBLES = 10


def configurations(vertex_count, pebbles):
    """Every configuration with this number of pebbles, in lexicographic order."""
    beginnings = [[]]
    for length in range(1, vertex_count):
        longer = []
        for beginning in beginnings:
            for placed in range(pebbles - sum(beginning) + 1):
                longer.append(beginning + [placed])
        beginnings = longer
    return [beginning + [pebbles - sum(beginning)] for beginning in beginnings]


def after_move(configuration, start, end):
    """The configuration that a pebbling move from start to end leads to."""
    moved = list(configuration)
    moved[start] = moved[start] - 2
    moved[end] = moved[end] + 1
    return moved


def is_unsolvable(configuration, target, steps, fewer):
    """Whether the target isn't reachable; fewer holds the unsolvable configurations with one pebble fewer."""
    if configuration[target] > 0:
        return False
    # A move takes one pebble away, so what it leads to is unsolvable just if it is among the fewer.
    for start, end in steps:
        if configuration[start] >= 2 and after_move(configuration, start, end) not in fewer:
            return False
    return True


def unsolvable_without_pebbles(vertex_count):
    """The unsolvable configurations without pebbles: the one that there is, for it reaches nothing."""
    return configurations(vertex_count, 0)


def unsolvable_with(pebbles, vertex_count, target, steps, fewer):
    """The unsolvable configurations with this number of pebbles; fewer holds those with one pebble fewer."""
    placings = configurations(vertex_count, pebbles)
    return [placing for placing in placings if is_unsolvable(placing, target, steps, fewer)]


def pebbles_needed(vertex_count, target, edges):
    """The pebbling number of a target in a connected graph."""
    steps = steps_of(edges)
    pebbles = 0
    unsolvable = unsolvable_without_pebbles(vertex_count)
    while len(unsolvable) > 0:
        pebbles = pebbles + 1
        unsolvable = unsolvable_with(pebbles, vertex_count, target, steps, unsolvable)
    return pebbles


def all_unsolvable(vertex_count, target, pebbles, edges):
    """The unsolvable configurations with this number of pebbles, in lexicographic order."""
    steps = steps_of(edges)
    unsolvable = unsolvable_without_pebbles(vertex_count)
    for placed in range(1, pebbles + 1):
        unsolvable = unsolvable_with(placed, vertex_count, target, steps, unsolvable)
    return unsolvable


def power_of_two(exponent):
    """2 to the power of the exponent."""
    power = 1
    for doubling in range(exponent):
        power = power * 2
    return power


def pebbles_by_formula(lengths):
    """The number of pebbles that the formula for trees gives for the lengths of a path partition."""
    return 1 + sum([power_of_two(length) - 1 for length in lengths])


def target_refusal(vertex_count, target, edges):
    """The number of the first refusal that applies to the graph or the target, None if there is none."""
    refusal = graph_refusal(vertex_count, edges)
    if refusal is None and target >= vertex_count:
        return NO_SUCH_TARGET
    return refusal


def placing_refusal(vertex_count, target, pebbles, edges):
    """The number of the first refusal that applies to the graph, the target or the pebbles, None if there is none."""
    refusal = target_refusal(vertex_count, target, edges)
    if refusal is None and pebbles > MOST_PEBBLES:
        return OUTSIDE_LIMITS
    return refusal


def tree_refusal(vertex_count, target, edges):
    """The number of the first refusal that applies to the graph as a tree or the target, None if there is none."""
    refusal = target_refusal(vertex_count, target, edges)
    if refusal is None and not is_tree(vertex_count, edges):
        return NOT_A_TREE
    return refusal


def pebbling_number(vertex_count, target, edges):
    """A list of one number: the pebbling number of the target, or the refusal."""
    refusal = target_refusal(vertex_count, target, edges)
    if refusal is not None:
        return [refusal]
    return [pebbles_needed(vertex_count, target, edges)]


def graph_pebbling_number(vertex_count, edges):
    """A list of one number: the pebbling number of the graph, or the refusal."""
    refusal = graph_refusal(vertex_count, edges)
    if refusal is not None:
        return [refusal]
    return [max([pebbles_needed(vertex_count, target, edges) for target in range(vertex_count)])]


def count_unsolvable(vertex_count, target, pebbles, edges):
    """A list of one number: how many configurations with so many pebbles are unsolvable, or the refusal."""
    refusal = placing_refusal(vertex_count, target, pebbles, edges)
    if refusal is not None:
        return [refusal]
    return [len(all_unsolvable(vertex_count, target, pebbles, edges))]


def unsolvable_configuration(vertex_count, target, pebbles, index, edges):
    """A list of vertex_count and the pebbles on each vertex in the unsolvable configuration, or of the refusal."""
    refusal = placing_refusal(vertex_count, target, pebbles, edges)
    if refusal is not None:
        return [refusal]
    unsolvable = all_unsolvable(vertex_count, target, pebbles, edges)
    if index >= len(unsolvable):
        return [NO_SUCH_INDEX]
    return [vertex_count] + unsolvable[index]


def path_partition(vertex_count, target, edges):
    """A list of the pebbles by the formula for trees and the length of each path, or of the refusal."""
    refusal = tree_refusal(vertex_count, target, edges)
    if refusal is not None:
        return [refusal]
    lengths = path_lengths(vertex_count, target, edges)
    return [pebbles_by_formula(lengths)] + lengths


def diameter(vertex_count, edges):
    """A list of one number: the diameter of the graph, however large it is, or the refusal."""
    refusal = connection_refusal(vertex_count, edges)
    if refusal is not None:
        return [refusal]
    return [largest_distance(vertex_count, edges)]
