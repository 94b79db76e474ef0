"""Polynomials over the field whose coefficients are rows, the lowest first."""

from spreadnodes.field import inverse, plus, times


def value_at(place, rows):
    """The sum over i of place to the i times rows[i]; there is at least one row."""
    value = [0] * len(rows[0])
    for row in reversed(rows):
        value = plus(times(place, value), row)
    return value


def divided_differences(places, values):
    """Newton's coefficients of the polynomial that has these values at these places."""
    layer = list(values)
    firsts = [layer[0]]
    for gap in range(1, len(places)):
        layer = [
            times(inverse(places[at] ^ places[at + gap]), plus(layer[at], layer[at + 1]))
            for at in range(len(layer) - 1)
        ]
        firsts.append(layer[0])
    return firsts


def with_root(place, rows):
    """The polynomial multiplied by (x + place)."""
    scaled = [times(place, row) for row in rows]
    middle = [plus(rows[at - 1], scaled[at]) for at in range(1, len(rows))]
    return [scaled[0]] + middle + [rows[-1]]


def rows_through(places, values):
    """The rows, as many as places, whose value at each of the places, all different, is the one given for it."""
    firsts = divided_differences(places, values)
    rows = [firsts[-1]]
    for at in range(len(places) - 2, -1, -1):
        rows = with_root(places[at], rows)
        rows[0] = plus(rows[0], firsts[at])
    return rows
