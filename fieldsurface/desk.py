"""The desk: calls are handed in as one list of whole numbers, their answers given back as another."""

from fieldsurface.body import Body
from fieldsurface.reader import Reader

BEGIN = 0
FIELD = 1
CUT = 2
TRIANGLE = 3


class UnknownCall(ValueError):
    """A call's number that stands for no call."""


def answer_call(body, reader):
    """Read one call and give back what the body answers."""
    call = reader.take()
    if call == BEGIN:
        return body.begin()
    if call == FIELD:
        nx = reader.take()
        ny = reader.take()
        nz = reader.take()
        return body.lay_field(nx, ny, nz, reader.take_row())
    if call == CUT:
        return body.cut(reader.take())
    if call == TRIANGLE:
        return body.tell_triangle(reader.take())
    raise UnknownCall(f"no call has the number {call}")


def answers(calls):
    """Give back, call by call, how many numbers are answered and then these numbers."""
    body = Body()
    reader = Reader(calls)
    told = []
    while reader.has_more():
        answer = answer_call(body, reader)
        told.append(len(answer))
        told.extend(answer)
    return told
