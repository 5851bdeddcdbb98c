"""What the tests share: calls, asking the desk, and a surface reckoned in another way than the program's."""

from fieldsurface.desk import answers

LEAST = -2147483648
MOST = 2147483647


def begin():
    return [0]


def field(nx, ny, nz, values=()):
    return [1, nx, ny, nz, len(values), *values]


def cut(level):
    return [2, level]


def triangle(k):
    return [3, k]


class Locked(list):
    """A list that fails the test if somebody changes it, even if it's changed back."""

    def refuse(self, *args, **kwargs):
        raise AssertionError("what is handed in must not be changed")

    append = clear = extend = insert = pop = remove = reverse = sort = refuse
    __setitem__ = __delitem__ = __iadd__ = __imul__ = refuse


def split(told):
    """Part what the desk gave back into one list for each call."""
    parts = []
    at = 0
    while at < len(told):
        end = at + 1 + told[at]
        if told[at] < 1 or end > len(told):
            raise AssertionError(f"no answer has {told[at]} numbers at {at} of {told}")
        parts.append(told[at + 1:end])
        at = end
    return parts


def ask(*calls):
    """Hand in the calls, one behind another, and give back each one's answer."""
    handed = Locked(number for call in calls for number in call)
    before = list(handed)
    told = answers(handed)
    if list(handed) != before:
        raise AssertionError("what is handed in must not be changed")
    if type(told) is not list or any(type(number) is not int for number in told):
        raise AssertionError(f"not a list of whole numbers: {told!r}")
    parts = split(told)
    if len(parts) != len(calls):
        raise AssertionError(f"{len(parts)} answers to {len(calls)} calls")
    return parts


def whole_surface(nx, ny, nz, values, level):
    """Ask how many triangles there are and then for each one; 100 calls fit into one list."""
    head = [begin(), field(nx, ny, nz, values), cut(level)]
    count = ask(*head)[2][0]
    found = []
    for start in range(0, count, 97):
        asked = [triangle(k) for k in range(start, min(start + 97, count))]
        found.extend(ask(*head, *asked)[3:])
    return found


def pattern_values(pattern, high=1, low=0):
    """The values of a single cube whose corner in direction d is high if the pattern has bit d."""
    return [high if pattern >> d & 1 else low for d in range(8)]


TETRAHEDRA = ("0137", "0157", "0237", "0267", "0457", "0467")
TURNED = ("0137", "0267", "0457")

# By the corners inside, worked out by hand from the document's words: triangles by the corners between which
# their points lie. The first table is for a turned tetrahedron, the second for one that isn't.
TURNED_TABLE = {
    "": [],
    "0": ["01 02 03"],
    "1": ["10 13 12"],
    "2": ["20 21 23"],
    "3": ["30 32 31"],
    "123": ["01 03 02"],
    "023": ["10 12 13"],
    "013": ["20 23 21"],
    "012": ["30 31 32"],
    "01": ["02 03 13", "02 13 12"],
    "02": ["01 23 03", "01 21 23"],
    "03": ["01 02 32", "01 32 31"],
    "12": ["10 13 23", "10 23 20"],
    "13": ["10 32 12", "10 30 32"],
    "23": ["20 21 31", "20 31 30"],
    "0123": [],
}
OTHER_TABLE = {
    "": [],
    "0": ["01 03 02"],
    "1": ["10 12 13"],
    "2": ["20 23 21"],
    "3": ["30 31 32"],
    "123": ["01 02 03"],
    "023": ["10 13 12"],
    "013": ["20 21 23"],
    "012": ["30 32 31"],
    "01": ["02 13 03", "02 12 13"],
    "02": ["01 03 23", "01 23 21"],
    "03": ["01 32 02", "01 31 32"],
    "12": ["10 23 13", "10 20 23"],
    "13": ["10 12 32", "10 32 30"],
    "23": ["20 31 21", "20 30 31"],
    "0123": [],
}


def place_of(cube, direction):
    return tuple(place + (direction >> bit & 1) for bit, place in enumerate(cube))


def expected_point(cube, tetrahedron, ends):
    directions = sorted(int(tetrahedron[int(end)]) for end in ends)
    return [*place_of(cube, directions[0]), directions[1] ^ directions[0]]


def expected_in_tetrahedron(cube, tetrahedron, value_at, level):
    """The answers to triangle for one tetrahedron, by the tables above."""
    inside = "".join(str(c) for c in range(4) if value_at(place_of(cube, int(tetrahedron[c]))) >= level)
    table = TURNED_TABLE if tetrahedron in TURNED else OTHER_TABLE
    found = []
    for row in table[inside]:
        points = [expected_point(cube, tetrahedron, ends) for ends in row.split()]
        found.append([0, *points[0], *points[1], *points[2]])
    return found


def expected_surface(nx, ny, nz, values, level):
    """The answers to triangle for the whole surface, by the tables above."""
    def value_at(place):
        return values[place[0] + nx * (place[1] + ny * place[2])]

    found = []
    for at in range(nx * ny * nz):
        cube = (at % nx, at // nx % ny, at // nx // ny)
        if cube[0] + 1 < nx and cube[1] + 1 < ny and cube[2] + 1 < nz:
            for tetrahedron in TETRAHEDRA:
                found.extend(expected_in_tetrahedron(cube, tetrahedron, value_at, level))
    return found


def mixed_values(count, seed, low, high):
    """Values that look mixed up and are the same each time."""
    values = []
    state = seed
    for _ in range(count):
        state = (state * 1103515245 + 12345) % 2147483648
        values.append(low + (state >> 8) % (high - low + 1))
    return values
