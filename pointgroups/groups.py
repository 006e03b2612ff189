"""The program's interface: a list of calls in, a list of answers out."""

from pointgroups.points import PointSet
from pointgroups.reader import Reader

BEGIN = 0
POINT = 1
PART = 2
GROUP = 3
MIDDLE = 4
COST = 5
DENSE = 6
DENSES = 7
MERGE = 8
CUT = 9


class UnknownCall(ValueError):
    pass


def answer_call(point_set, reader):
    call = reader.take()
    if call == BEGIN:
        return point_set.begin()
    if call == POINT:
        return point_set.point(reader.row())
    if call == PART:
        k = reader.take()
        return point_set.part(k, reader.take())
    if call == GROUP:
        return point_set.group(reader.take())
    if call == MIDDLE:
        return point_set.middle(reader.take())
    if call == COST:
        return point_set.cost()
    if call == DENSE:
        radius = reader.take()
        least = reader.take()
        return point_set.dense(radius, least, reader.take())
    if call == DENSES:
        radius = reader.take()
        return point_set.denses(radius, reader.take())
    if call == MERGE:
        kind = reader.take()
        return point_set.merge(kind, reader.take())
    if call == CUT:
        kind = reader.take()
        groups = reader.take()
        return point_set.cut(kind, groups, reader.take())
    raise UnknownCall(f"there is no call {call}")


def answers(calls):
    point_set = PointSet()
    reader = Reader(calls)
    given = []
    while reader.more():
        answer = answer_call(point_set, reader)
        given.append(len(answer))
        given.extend(answer)
    return given
