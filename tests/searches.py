"""What the document says, found by walks over all starts, boxes, depths and words: slow, and without the package."""

import itertools

from tests.samples import all_rows, made_net, made_rows

# By base, the numbers of dimensions, depths and widths of nets all of whose words can be walked over.
SIZES = {
    2: ((1, 1, 1), (1, 3, 2), (1, 2, 4), (2, 2, 2), (2, 2, 3), (2, 3, 3), (3, 2, 3), (3, 1, 2), (4, 2, 3), (5, 1, 3),
        (1, 5, 3), (2, 4, 4), (2, 1, 5), (6, 1, 4)),
    3: ((1, 1, 2), (1, 3, 2), (2, 2, 2), (2, 2, 3), (3, 1, 2), (2, 3, 2), (3, 2, 3)),
    5: ((1, 1, 1), (1, 2, 1), (1, 2, 3), (2, 1, 2), (2, 2, 2), (3, 1, 2), (2, 2, 3)),
    7: ((1, 1, 1), (1, 2, 2), (2, 1, 1), (2, 1, 2), (2, 2, 2), (3, 1, 2)),
}


def poor_net(seed, base, dimensions, depth, width):
    """A net with rows that are nought, the same or bound, the same net for the same seed."""
    tables = []
    rows = [(0,) * width, made_rows(seed, base, 1, width)[0]]
    for number, row in enumerate(made_rows((seed, "more"), base, dimensions * depth, width)):
        rows.append([row, rows[number // 2], tuple(2 * figure % base for figure in rows[-1])][number % 3])
    for at in range(dimensions):
        tables.append(tuple(rows[at * depth:(at + 1) * depth]))
    return base, tuple(tables)


def unit_table(depth, width, shift=0):
    """The table whose row j has 1 at the place j, moved by the shift, alone."""
    return tuple(tuple(int(place == (row + shift) % width) for place in range(width)) for row in range(depth))


def small_nets(base):
    """Nets of the base: free ones, poor ones, and such as have noughts alone."""
    nets = []
    for dimensions, depth, width in SIZES[base]:
        for seed in ("a", "b"):
            nets.append(made_net(seed, base, dimensions, depth, width))
            nets.append(poor_net(seed, base, dimensions, depth, width))
        nets.append((base, (((0,) * width,) * depth,) * dimensions))
        nets.append((base, tuple(unit_table(depth, width, depth * at) for at in range(dimensions))))
    return nets


def sizes_of(net):
    """The number of dimensions, the depth and the width."""
    return len(net[1]), len(net[1][0]), len(net[1][0][0])


def points_by_starts(net):
    """All pairs of a start and its point."""
    base, tables = net
    return [
        (start, tuple(tuple(sum(a * b for a, b in zip(row, start)) % base for row in table) for table in tables))
        for start in all_rows(base, sizes_of(net)[2])]


def all_depths(net):
    """All depths of the net, ascending."""
    dimensions, depth, _ = sizes_of(net)
    return list(itertools.product(range(depth + 1), repeat=dimensions))


def all_boxes(net, depths):
    """All boxes of the depths, ascending."""
    return list(itertools.product(*[list(all_rows(net[0], one)) for one in depths]))


def begun(point, depths):
    """The box of the depths that the point is in."""
    return tuple(figures[:one] for figures, one in zip(point, depths))


def all_words(net):
    """All words of the net, ascending."""
    dimensions, depth, _ = sizes_of(net)
    return list(itertools.product(list(all_rows(net[0], depth)), repeat=dimensions))


def flat(parts):
    return tuple(itertools.chain(*parts))


def weighed(base, word, point):
    """The rest by which the word weighs the point."""
    return sum(a * b for a, b in zip(flat(word), flat(point))) % base


def searched_dual(net):
    """The words that weigh all points 0, ascending."""
    points = {point for _, point in points_by_starts(net)}
    return [word for word in all_words(net) if all(weighed(net[0], word, point) == 0 for point in points)]


def searched_shape(word):
    """The greatest places, from 1 on, that have not 0."""
    return tuple(max((place for place, figure in enumerate(part, 1) if figure), default=0) for part in word)


def is_within(shape, depths):
    return all(a <= b for a, b in zip(shape, depths))


def slow_rank(base, rows):
    """The rank, by making the rows shorter, one place after the other."""
    rows, found = list(rows), 0
    while rows and rows[0]:
        head = next((row for row in rows if row[0]), None)
        if head is None:
            rows = [row[1:] for row in rows]
        else:
            found += 1
            rest = [row for row in rows if row is not head]
            factors = [-row[0] * pow(head[0], -1, base) for row in rest]
            rows = [tuple((a + k * b) % base for a, b in zip(row[1:], head[1:])) for k, row in zip(factors, rest)]
    return found


def rows_of(net, depths=None):
    """The rows within the depths, all of them for None."""
    depths = (sizes_of(net)[1],) * len(net[1]) if depths is None else depths
    return [row for table, one in zip(net[1], depths) for row in table[:one]]


def depths_of_size(net, size):
    """All depths of the net of a size."""
    def extended(ahead, left, more):
        if more == 0:
            return [ahead] if left == 0 else []
        return [
            depths for one in range(min(left, sizes_of(net)[1]) + 1)
            for depths in extended(ahead + (one,), left - one, more - 1)]
    return extended((), size, len(net[1]))
