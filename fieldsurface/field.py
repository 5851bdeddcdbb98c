"""The field: a value at each point of a grid."""

SMALLEST_SIZE = 2
LARGEST_SIZE = 32

# A direction of 0 leads to where it comes from: that's no way.
LOWEST_WAY = 1
HIGHEST_WAY = 7


def is_size(size):
    """Tell whether a grid may have so many points along one of its sides."""
    return SMALLEST_SIZE <= size <= LARGEST_SIZE


def step(place, direction):
    """Give the place to which a direction leads from a place."""
    return (place[0] + direction % 2, place[1] + direction // 2 % 2, place[2] + direction // 4 % 2)


class Field:
    """The values of a grid of nx by ny by nz points, x counted fastest and z slowest."""

    def __init__(self, nx, ny, nz, numbers):
        self.nx = nx
        self.ny = ny
        self.nz = nz
        self.numbers = list(numbers)

    def value_at(self, place):
        """Give the value at a place (x, y, z)."""
        return self.numbers[place[0] + self.nx * (place[1] + self.ny * place[2])]

    def has_place(self, place):
        """Tell whether a place is one of the grid's points."""
        return 0 <= place[0] < self.nx and 0 <= place[1] < self.ny and 0 <= place[2] < self.nz

    def has_way(self, start, direction):
        """Tell whether a way leads from a place in a direction to another grid point."""
        if not LOWEST_WAY <= direction <= HIGHEST_WAY:
            return False
        return self.has_place(start) and self.has_place(step(start, direction))

    def cubes(self):
        """List the lowest corners of all cubes, in the order in which their values stand."""
        lowest = []
        for z in range(self.nz - 1):
            for y in range(self.ny - 1):
                for x in range(self.nx - 1):
                    lowest.append((x, y, z))
        return lowest
