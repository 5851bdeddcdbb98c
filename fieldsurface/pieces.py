"""The pieces of a surface: the triangles that hang together.

A piece is the list of its triangles' numbers here, in rising order.
"""


def triangles_by_point(triangles):
    """Give for each point the numbers of the triangles that have it."""
    holders = {}
    for k in range(len(triangles)):
        for point in triangles[k]:
            if point not in holders:
                holders[point] = []
            holders[point].append(k)
    return holders


def hanging_together(first, triangles, holders):
    """Give the piece that has a triangle."""
    reached = {first: True}
    waiting = [first]
    while len(waiting) > 0:
        k = waiting.pop()
        for point in triangles[k]:
            for other in holders[point]:
                if other not in reached:
                    reached[other] = True
                    waiting.append(other)
    return sorted(reached)


def surface_pieces(triangles):
    """List all pieces of a surface in the order of their first triangles."""
    holders = triangles_by_point(triangles)
    taken = {}
    found = []
    for k in range(len(triangles)):
        if k not in taken:
            piece = hanging_together(k, triangles, holders)
            found.append(piece)
            for member in piece:
                taken[member] = True
    return found


def piece_with(pieces, k):
    """Give the number of the piece that has triangle k, or None where no piece has it."""
    for number in range(len(pieces)):
        if k in pieces[number]:
            return number
    return None


def sides_of(triangle):
    """List a triangle's three sides, each the same whichever way round it is walked."""
    sides = []
    for at in range(3):
        # At 0 the point before is the last one, at -1: the first point stands behind the third.
        before = triangle[at - 1]
        behind = triangle[at]
        sides.append((min(before, behind), max(before, behind)))
    return sides


def count_points(piece, triangles):
    """Tell how many points a piece has."""
    points = {}
    for k in piece:
        for point in triangles[k]:
            points[point] = True
    return len(points)


def triangles_by_side(piece, triangles):
    """Give for each side of a piece how many of its triangles have it."""
    holders = {}
    for k in piece:
        for side in sides_of(triangles[k]):
            holders[side] = holders.get(side, 0) + 1
    return holders


def measure_piece(piece, triangles):
    """Give a piece's first triangle, and how many triangles, points, sides and sides of its rim it has."""
    holders = triangles_by_side(piece, triangles)
    rim = [side for side in holders if holders[side] == 1]
    return [piece[0], len(piece), count_points(piece, triangles), len(holders), len(rim)]
