"""Graphs told by a vertex count and a list of edge ends: their limits, their distances, their refusals, their paths."""

OUTSIDE_LIMITS = -22
NOT_CONNECTED = -33
TOO_WIDE = -75

LARGEST_VERTEX_COUNT = 5
LARGEST_DIAMETER = 3


def edge_pairs(edges):
    """The edges as pairs (u, v), in the order in which they stand."""
    return [(edges[place], edges[place + 1]) for place in range(0, len(edges) - 1, 2)]


def are_edges(vertex_count, edges):
    """Whether the edges are pairs u < v of vertices, in strictly increasing lexicographic order."""
    if len(edges) % 2 != 0:
        return False
    # (0, 0) is no edge and stands before every pair with u < v.
    earlier = (0, 0)
    for pair in edge_pairs(edges):
        if pair[0] >= pair[1] or pair[1] >= vertex_count or pair <= earlier:
            return False
        earlier = pair
    return True


def is_within_limits(vertex_count, edges):
    """Whether vertex_count and edges are within their limits."""
    return 1 <= vertex_count and vertex_count <= LARGEST_VERTEX_COUNT and are_edges(vertex_count, edges)


def steps_of(edges):
    """The edges as steps (start, end), each edge in both directions."""
    pairs = edge_pairs(edges)
    return pairs + [(v, u) for u, v in pairs]


def distances_from(vertex_count, starts, edges):
    """The distance to each vertex from the nearest of the starts, None where no path leads."""
    steps = steps_of(edges)
    distances = [None] * vertex_count
    for start in starts:
        distances[start] = 0
    for distance in range(1, vertex_count):
        for near, far in steps:
            if distances[near] == distance - 1 and distances[far] is None:
                distances[far] = distance
    return distances


def largest_distance(vertex_count, edges):
    """The largest distance between two vertices, None if the graph isn't connected."""
    largest = 0
    for start in range(vertex_count):
        for distance in distances_from(vertex_count, [start], edges):
            if distance is None:
                return None
            largest = max(largest, distance)
    return largest


def connection_refusal(vertex_count, edges):
    """The number of the first refusal that applies to a graph of any diameter, None if there is none."""
    if not is_within_limits(vertex_count, edges):
        return OUTSIDE_LIMITS
    if largest_distance(vertex_count, edges) is None:
        return NOT_CONNECTED
    return None


def graph_refusal(vertex_count, edges):
    """The number of the first refusal that applies to the graph, None if there is none."""
    refusal = connection_refusal(vertex_count, edges)
    if refusal is None and largest_distance(vertex_count, edges) > LARGEST_DIAMETER:
        return TOO_WIDE
    return refusal


def is_tree(vertex_count, edges):
    """Whether a connected graph is a tree."""
    return len(edges) == 2 * (vertex_count - 1)


def nearer_neighbour(vertex, distances, steps):
    """The vertex adjacent to this one that has a smaller distance."""
    return [end for start, end in steps if start == vertex and distances[end] < distances[vertex]][0]


def path_to_nearest(vertex, distances, steps):
    """The path from this vertex to the nearest with distance 0, in a tree, without the latter."""
    path = []
    here = vertex
    while distances[here] > 0:
        path.append(here)
        here = nearer_neighbour(here, distances, steps)
    return path


def path_lengths(vertex_count, target, edges):
    """The length of each path of a tree's path partition from the target, in the order in which they are chosen."""
    steps = steps_of(edges)
    visited = [target]
    lengths = []
    while len(visited) < vertex_count:
        distances = distances_from(vertex_count, visited, edges)
        length = max(distances)
        # index finds the first, which is the lowest in case of a tie.
        visited = visited + path_to_nearest(distances.index(length), distances, steps)
        lengths.append(length)
    return lengths
