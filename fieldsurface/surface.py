"""The surface: the triangles of all tetrahedra of all cubes of a field.

A point of the surface is (x, y, z, direction) here, a triangle is three such points.
"""

from fieldsurface.field import step
from fieldsurface.tetrahedron import parting_triangles

# Each with its corners, as directions from the cube's lowest corner, and whether it is turned.
TETRAHEDRA = (
    ((0, 1, 3, 7), True),
    ((0, 1, 5, 7), False),
    ((0, 2, 3, 7), False),
    ((0, 2, 6, 7), True),
    ((0, 4, 5, 7), True),
    ((0, 4, 6, 7), False),
)


def point_between(cube, corners, pair):
    """Give the point on the way between two corners of a tetrahedron."""
    # A lower corner's direction has no bit that a higher corner's lacks: the way leads from the lower corner
    # to the higher one, and its direction is what the one has more than the other.
    low = corners[min(pair)]
    high = corners[max(pair)]
    start = step(cube, low)
    return (start[0], start[1], start[2], high - low)


def tetrahedron_triangles(field, level, cube, tetrahedron):
    """List the triangles of one tetrahedron of a cube."""
    corners = tetrahedron[0]
    turned = tetrahedron[1]
    inside = []
    outside = []
    for corner in range(4):
        if field.value_at(step(cube, corners[corner])) >= level:
            inside.append(corner)
        else:
            outside.append(corner)
    found = []
    for pairs in parting_triangles(inside, outside, turned):
        found.append(tuple([point_between(cube, corners, pair) for pair in pairs]))
    return found


def surface_triangles(field, level):
    """List all triangles of the surface in the order of their numbers."""
    found = []
    for cube in field.cubes():
        for tetrahedron in TETRAHEDRA:
            found.extend(tetrahedron_triangles(field, level, cube, tetrahedron))
    return found
