"""The body that the calls are about: its field, its level and the surface there.

Each call gives back its answer as a list: the number that is answered, and behind it what else is told.
"""

from fieldsurface.field import Field, is_size, step
from fieldsurface.pieces import measure_piece, piece_with, surface_pieces
from fieldsurface.surface import surface_triangles
from fieldsurface.way import is_cut, part_of_way

LOWEST_LEVEL = -32767
HIGHEST_LEVEL = 32768

DONE = 0
REFUSED = -1
NO_LEVEL = -4


class Body:
    """A body whose field and level are None as long as there is none."""

    def __init__(self):
        self.field = None
        self.level = None
        self.triangles = []
        self.pieces = []

    def begin(self):
        """Answer begin."""
        self.set_field(None)
        return [DONE]

    def lay_field(self, nx, ny, nz, numbers):
        """Answer field."""
        if not (is_size(nx) and is_size(ny) and is_size(nz)):
            return [REFUSED]
        self.set_field(Field(nx, ny, nz, numbers))
        return [DONE]

    def set_field(self, field):
        """Take a field, or None; a level that was there belonged to the field before."""
        self.field = field
        self.level = None
        self.triangles = []
        self.pieces = []

    def cut(self, level):
        """Answer cut."""
        if self.field is None or not LOWEST_LEVEL <= level <= HIGHEST_LEVEL:
            return [REFUSED]
        self.level = level
        self.triangles = surface_triangles(self.field, level)
        self.pieces = surface_pieces(self.triangles)
        return [len(self.triangles)]

    def tell_triangle(self, k):
        """Answer triangle."""
        if self.level is None:
            return [NO_LEVEL]
        if not 0 <= k < len(self.triangles):
            return [REFUSED]
        told = [DONE]
        for point in self.triangles[k]:
            told.extend(point)
        return told

    def tell_point(self, x, y, z, direction):
        """Answer point."""
        if self.level is None:
            return [NO_LEVEL]
        start = (x, y, z)
        if not self.field.has_way(start, direction):
            return [REFUSED]
        first = self.field.value_at(start)
        second = self.field.value_at(step(start, direction))
        if not is_cut(first, second, self.level):
            return [REFUSED]
        return [DONE] + part_of_way(first, second, self.level)

    def count_pieces(self):
        """Answer count."""
        if self.level is None:
            return [NO_LEVEL]
        return [len(self.pieces)]

    def tell_piece(self, k):
        """Answer piece."""
        if self.level is None:
            return [NO_LEVEL]
        if not 0 <= k < len(self.pieces):
            return [REFUSED]
        return [DONE] + measure_piece(self.pieces[k], self.triangles)

    def tell_hangs(self, k):
        """Answer hangs."""
        if self.level is None:
            return [NO_LEVEL]
        number = piece_with(self.pieces, k)
        if number is None:
            return [REFUSED]
        return [number]
