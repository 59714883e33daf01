"""Rows of figures, without any errors: products, stairs, ranks and ties."""


def inverse(base, figure):
    """The figure that makes 1 with a figure other than 0."""
    other = 1
    while figure * other % base != 1:
        other += 1
    return other


def row_times(base, row, other):
    """The figure that row times row is."""
    return sum([left * right for left, right in zip(row, other)]) % base


def rows_times(base, rows, row):
    """The figures that all the rows make with one row, each times it."""
    return tuple([row_times(base, one, row) for one in rows])


def multiple(base, figure, row):
    """The row, multiplied by the figure."""
    return [figure * one % base for one in row]


def cleared(base, row, lead, place):
    """The row less the multiple of a lead row, 1 at the place, that leaves it 0 there."""
    figure = row[place]
    if figure == 0:
        return row
    return [(one - figure * less) % base for one, less in zip(row, lead)]


def lead_index(rows, place):
    """The index of the first row that has not 0 at the place, None if all have."""
    for index, row in enumerate(rows):
        if row[place] != 0:
            return index
    return None


def length_of(rows):
    """How many figures each of the rows has, 0 if there are no rows."""
    return len(rows[0]) if len(rows) > 0 else 0


def stairs(base, rows):
    """The base in stairs of all sums of multiples of the rows, () if nought is the only one."""
    found = []
    left = list(rows)
    for place in range(length_of(rows)):
        index = lead_index(left, place)
        if index is not None:
            chosen = left.pop(index)
            lead = multiple(base, inverse(base, chosen[place]), chosen)
            found = [cleared(base, row, lead, place) for row in found]
            found.append(lead)
            left = [cleared(base, row, lead, place) for row in left]
    return tuple([tuple(row) for row in found])


def rank(base, rows):
    """The greatest number of free ones among the rows."""
    return len(stairs(base, rows))


def unit_row(length, place):
    """The row with 1 at the place alone."""
    return tuple([1 if other == place else 0 for other in range(length)])


def ties(base, rows):
    """The base in stairs of all ties of the rows, () if these are free."""
    many = len(rows)
    width = length_of(rows)
    # A unit row behind each row keeps count of which multiples a sum is made of. The rows in
    # stairs that begin with nought for a whole row so end with ties, and these are in stairs, too.
    marked = [tuple(row) + unit_row(many, index) for index, row in enumerate(rows)]
    return tuple([row[width:] for row in stairs(base, marked) if not any(row[:width])])


def columns(rows, width):
    """The columns of rows of so many figures, each one () if there are no rows."""
    return tuple([tuple([row[place] for row in rows]) for place in range(width)])


def sum_of_rows(base, factors, rows):
    """The sum of one or more rows, each times the figure at its index."""
    return rows_times(base, columns(rows, length_of(rows)), factors)


def row_sums(base, rows, length):
    """All sums of rows of so many figures, each times a figure: one for each choice of these."""
    found = [(0,) * length]
    for row in rows:
        multiples = [multiple(base, figure, row) for figure in range(base)]
        found = [
            tuple([(left + right) % base for left, right in zip(one, other)]) for other in multiples for one in found]
    return found


def first_place(row):
    """The first place at which a row has not 0, None for nought."""
    for place, figure in enumerate(row):
        if figure != 0:
            return place
    return None


def rest(base, span, row):
    """What a span leaves of a row: nought exactly if the row is a sum of multiples of its rows.

    A span holds free rows, each as a pair of a place and a row that has 1 there; at this place
    all rows behind it have 0.
    """
    for place, lead in span:
        row = cleared(base, row, lead, place)
    return row


def widened(base, span, row):
    """The span with a further row, the span itself if the row is a sum of multiples of its rows."""
    left = rest(base, span, row)
    place = first_place(left)
    if place is None:
        return span
    return span + ((place, tuple(multiple(base, inverse(base, left[place]), left))),)


def span_of(base, rows):
    """The span of the rows."""
    span = ()
    for row in rows:
        span = widened(base, span, row)
    return span
