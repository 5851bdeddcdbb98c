"""The desk: calls are handed in as one list of whole numbers, their answers given back as another."""

from fieldsurface.body import Body
from fieldsurface.reader import Reader

BEGIN = 0
FIELD = 1
CUT = 2
TRIANGLE = 3
POINT = 4
COUNT = 5
PIECE = 6
HANGS = 7


class UnknownCall(ValueError):
    """A call's number that stands for no call."""


def answer_call(body, reader):
    """Read one call and give back what the body answers."""
    call = reader.take()
    if call == BEGIN:
        return body.begin()
    if call == FIELD:
        nx = reader.take()
        ny = reader.take()
        nz = reader.take()
        return body.lay_field(nx, ny, nz, reader.take_row())
    if call == CUT:
        return body.cut(reader.take())
    if call == TRIANGLE:
        return body.tell_triangle(reader.take())
    if call == POINT:
        x = reader.take()
        y = reader.take()
        z = reader.take()
        return body.tell_point(x, y, z, reader.take())
    if call == COUNT:
        return body.count_pieces()
    if call == PIECE:
        return body.tell_piece(reader.take())
    if call == HANGS:
        return body.tell_hangs(reader.take())
    raise UnknownCall(f"no call has the number {call}")


def answers(calls):
    """Give back, call by call, how many numbers are answered and then these numbers."""
    body = Body()
    reader = Reader(calls)
    told = []
    while reader.has_more():
        answer = answer_call(body, reader)
        told.append(len(answer))
        told.extend(answer)
    return told
