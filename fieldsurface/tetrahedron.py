"""The triangles of one tetrahedron.

A point on the way between corners i and j is the pair (i, j) here, a triangle is three such pairs.
"""


def is_even(order):
    """Tell whether an even number of pairs stand the wrong way round."""
    wrong = 0
    for first in range(len(order)):
        for second in range(first + 1, len(order)):
            if order[first] > order[second]:
                wrong += 1
    return wrong % 2 == 0


def around_corner(alone, others, turned):
    """Give the triangle that parts one corner from the other three, facing away from that corner."""
    a = others[0]
    b = others[1]
    e = others[2]
    if is_even([alone, a, b, e]) == turned:
        return ((alone, a), (alone, b), (alone, e))
    return ((alone, a), (alone, e), (alone, b))


def between_pairs(inside, outside, turned):
    """Give the two triangles that part two corners inside from two outside."""
    i = inside[0]
    j = inside[1]
    k = outside[0]
    m = outside[1]
    if is_even([i, j, k, m]) == turned:
        return [((i, k), (i, m), (j, m)), ((i, k), (j, m), (j, k))]
    return [((i, k), (j, m), (i, m)), ((i, k), (j, k), (j, m))]


def parting_triangles(inside, outside, turned):
    """Give the triangles that part the corners inside from those outside, both in rising order."""
    if len(inside) == 1:
        return [around_corner(inside[0], outside, turned)]
    if len(outside) == 1:
        # A triangle has to face the outside: here that is towards the corner alone, so it's laid the other way round.
        return [around_corner(outside[0], inside, not turned)]
    if len(inside) == 2:
        return between_pairs(inside, outside, turned)
    return []
