"""What the tests share: calls, asking the desk, and a surface reckoned in another way than the program's."""

from fieldsurface.desk import answers

LEAST = -2147483648
MOST = 2147483647


def begin():
    return [0]


def field(nx, ny, nz, values=()):
    return [1, nx, ny, nz, len(values), *values]


def cut(level):
    return [2, level]


def triangle(k):
    return [3, k]


def point(x, y, z, d):
    return [4, x, y, z, d]


def count():
    return [5]


def piece(k):
    return [6, k]


def hangs(k):
    return [7, k]


class Locked(list):
    """A list that fails the test if somebody changes it, even if it's changed back."""

    def refuse(self, *args, **kwargs):
        raise AssertionError("what is handed in must not be changed")

    append = clear = extend = insert = pop = remove = reverse = sort = refuse
    __setitem__ = __delitem__ = __iadd__ = __imul__ = refuse


def split(told):
    """Part what the desk gave back into one list for each call."""
    parts = []
    at = 0
    while at < len(told):
        end = at + 1 + told[at]
        if told[at] < 1 or end > len(told):
            raise AssertionError(f"no answer has {told[at]} numbers at {at} of {told}")
        parts.append(told[at + 1:end])
        at = end
    return parts


def ask(*calls):
    """Hand in the calls, one behind another, and give back each one's answer."""
    handed = Locked(number for call in calls for number in call)
    before = list(handed)
    told = answers(handed)
    if list(handed) != before:
        raise AssertionError("what is handed in must not be changed")
    if type(told) is not list or any(type(number) is not int for number in told):
        raise AssertionError(f"not a list of whole numbers: {told!r}")
    parts = split(told)
    if len(parts) != len(calls):
        raise AssertionError(f"{len(parts)} answers to {len(calls)} calls")
    return parts


def ask_all(nx, ny, nz, values, level, asked):
    """Lay and cut a field and give back the answers to all that's asked of it; 100 calls fit into one list."""
    head = [begin(), field(nx, ny, nz, values), cut(level)]
    found = []
    for start in range(0, len(asked), 97):
        found.extend(ask(*head, *asked[start:start + 97])[3:])
    return found


def how_many(nx, ny, nz, values, level):
    """Ask how many triangles and how many pieces there are."""
    told = ask(begin(), field(nx, ny, nz, values), cut(level), count())
    return told[2][0], told[3][0]


def whole_surface(nx, ny, nz, values, level):
    """The answers to triangle, for each one that there is."""
    triangles = how_many(nx, ny, nz, values, level)[0]
    return ask_all(nx, ny, nz, values, level, [triangle(k) for k in range(triangles)])


def all_pieces(nx, ny, nz, values, level):
    """The answers to piece, for each one that there is."""
    pieces = how_many(nx, ny, nz, values, level)[1]
    return ask_all(nx, ny, nz, values, level, [piece(k) for k in range(pieces)])


def all_hangs(nx, ny, nz, values, level):
    """The numbers that hangs answers, for each triangle that there is."""
    triangles = how_many(nx, ny, nz, values, level)[0]
    told = ask_all(nx, ny, nz, values, level, [hangs(k) for k in range(triangles)])
    return [number for row in told for number in row]


def pattern_values(pattern, high=1, low=0):
    """The values of a single cube whose corner in direction d is high if the pattern has bit d."""
    return [high if pattern >> d & 1 else low for d in range(8)]


TETRAHEDRA = ("0137", "0157", "0237", "0267", "0457", "0467")
TURNED = ("0137", "0267", "0457")

# By the corners inside, worked out by hand from the document's words: triangles by the corners between which
# their points lie. The first table is for a turned tetrahedron, the second for one that isn't.
TURNED_TABLE = {
    "": [],
    "0": ["01 02 03"],
    "1": ["10 13 12"],
    "2": ["20 21 23"],
    "3": ["30 32 31"],
    "123": ["01 03 02"],
    "023": ["10 12 13"],
    "013": ["20 23 21"],
    "012": ["30 31 32"],
    "01": ["02 03 13", "02 13 12"],
    "02": ["01 23 03", "01 21 23"],
    "03": ["01 02 32", "01 32 31"],
    "12": ["10 13 23", "10 23 20"],
    "13": ["10 32 12", "10 30 32"],
    "23": ["20 21 31", "20 31 30"],
    "0123": [],
}
OTHER_TABLE = {
    "": [],
    "0": ["01 03 02"],
    "1": ["10 12 13"],
    "2": ["20 23 21"],
    "3": ["30 31 32"],
    "123": ["01 02 03"],
    "023": ["10 13 12"],
    "013": ["20 21 23"],
    "012": ["30 32 31"],
    "01": ["02 13 03", "02 12 13"],
    "02": ["01 03 23", "01 23 21"],
    "03": ["01 32 02", "01 31 32"],
    "12": ["10 23 13", "10 20 23"],
    "13": ["10 12 32", "10 32 30"],
    "23": ["20 31 21", "20 30 31"],
    "0123": [],
}


def place_of(cube, direction):
    return tuple(place + (direction >> bit & 1) for bit, place in enumerate(cube))


def expected_point(cube, tetrahedron, ends):
    directions = sorted(int(tetrahedron[int(end)]) for end in ends)
    return [*place_of(cube, directions[0]), directions[1] ^ directions[0]]


def expected_in_tetrahedron(cube, tetrahedron, value_at, level):
    """The answers to triangle for one tetrahedron, by the tables above."""
    inside = "".join(str(c) for c in range(4) if value_at(place_of(cube, int(tetrahedron[c]))) >= level)
    table = TURNED_TABLE if tetrahedron in TURNED else OTHER_TABLE
    found = []
    for row in table[inside]:
        points = [expected_point(cube, tetrahedron, ends) for ends in row.split()]
        found.append([0, *points[0], *points[1], *points[2]])
    return found


def expected_surface(nx, ny, nz, values, level):
    """The answers to triangle for the whole surface, by the tables above."""
    def value_at(place):
        return values[place[0] + nx * (place[1] + ny * place[2])]

    found = []
    for at in range(nx * ny * nz):
        cube = (at % nx, at // nx % ny, at // nx // ny)
        if cube[0] + 1 < nx and cube[1] + 1 < ny and cube[2] + 1 < nz:
            for tetrahedron in TETRAHEDRA:
                found.extend(expected_in_tetrahedron(cube, tetrahedron, value_at, level))
    return found


def points_of(told):
    """The three points that triangle answered."""
    return [tuple(told[at:at + 4]) for at in (1, 5, 9)]


def ends_of(told_point):
    """Both grid points of the way on which a point lies."""
    return tuple(told_point[:3]), place_of(told_point[:3], told_point[3])


def on_a_face(sizes, places):
    """Whether all these places lie on one and the same outer face of the grid."""
    return any(all(place[axis] == edge for place in places)
               for axis, size in enumerate(sizes) for edge in (0, size - 1))


def expected_groups(rows):
    """The numbers of triangles that hang together, by joining groups that have a point in common."""
    groups = []
    for number, row in enumerate(rows):
        points = set(points_of(row))
        touching = [group for group in groups if group[1] & points]
        groups = [group for group in groups if not group[1] & points]
        members = {number}.union(*[group[0] for group in touching])
        groups.append((members, points.union(*[group[1] for group in touching])))
    return sorted(sorted(members) for members, _ in groups)


def expected_piece(rows, members):
    """The answer to piece for the triangles with these numbers."""
    sides = {}
    points = set()
    for number in members:
        first, second, third = points_of(rows[number])
        points.update([first, second, third])
        for side in ({first, second}, {second, third}, {third, first}):
            sides.setdefault(frozenset(side), []).append(number)
    rim = [side for side, holders in sides.items() if len(holders) == 1]
    return [0, members[0], len(members), len(points), len(sides), len(rim)]


def mixed_values(amount, seed, low, high):
    """Values that look mixed up and are the same each time."""
    values = []
    state = seed
    for _ in range(amount):
        state = (state * 1103515245 + 12345) % 2147483648
        values.append(low + (state >> 8) % (high - low + 1))
    return values


# Grids of all shapes, small and with as many values as there may be.
SIZES = [(2, 2, 2), (3, 2, 2), (2, 3, 2), (2, 2, 3), (2, 3, 4), (4, 3, 2), (3, 3, 3), (3, 4, 4), (4, 4, 3), (12, 2, 2),
         (2, 12, 2), (2, 2, 12), (5, 3, 3)]


def mixed_fields():
    """Fields of all shapes with a level each: sizes, values, level."""
    for sizes in SIZES:
        nx, ny, nz = sizes
        for spread in (1, 3, 100):
            values = mixed_values(nx * ny * nz, nx * 7 + ny * 77 + nz * 777 + spread, -spread, spread)
            for level in (0, 1, spread):
                yield sizes, values, level


def drawn_values(sizes, inside, high=1, low=0):
    """The values of a field that are high at some grid points and low at all others."""
    nx, ny, nz = sizes
    return [high if (x, y, z) in inside else low for z in range(nz) for y in range(ny) for x in range(nx)]
