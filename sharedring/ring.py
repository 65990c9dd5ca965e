"""The calls on one new ring, and what they answer, as lists of whole numbers."""

from sharedring.layout import new_ring
from sharedring.operations import others_look, others_write, rg_begin, rg_look, rg_mend, rg_put, rg_sound, rg_sum
from sharedring.operations import rg_take, rg_wait
from sharedring.reader import CallReader

RG_BEGIN = 0
RG_PUT = 1
RG_TAKE = 2
RG_WAIT = 3
RG_LOOK = 4
RG_SOUND = 5
RG_MEND = 6
RG_SUM = 7
OTHERS_WRITE = 8
OTHERS_LOOK = 9


class UnknownCall(ValueError):
    """A number stands where a call begins, and no call has it."""


def others_call(ring, reader, call):
    """Do what others do between the calls, and answer what it answers."""
    at = reader.read_one()
    if call == OTHERS_WRITE:
        return others_write(ring, at, reader.read_row())
    return others_look(ring, at, reader.read_one())


def one_call(ring, reader):
    """Read one call, do it, and answer what it answers."""
    call = reader.read_one()
    if call == RG_BEGIN:
        return rg_begin(ring)
    if call == RG_PUT:
        kind = reader.read_one()
        return rg_put(ring, kind, reader.read_row())
    if call == RG_TAKE:
        return rg_take(ring)
    if call == RG_WAIT:
        return rg_wait(ring, reader.read_one())
    if call == RG_LOOK:
        return rg_look(ring, reader.read_one())
    if call == RG_SOUND:
        return rg_sound(ring)
    if call == RG_MEND:
        return rg_mend(ring)
    if call == RG_SUM:
        return rg_sum(reader.read_row())
    if call == OTHERS_WRITE or call == OTHERS_LOOK:
        return others_call(ring, reader, call)
    raise UnknownCall(f"no call has the number {call}")


def answers(calls):
    """Answer, for each call in order, how many numbers it answers, and these."""
    ring = new_ring()
    reader = CallReader(calls)
    told = []
    while reader.has_more():
        answer = one_call(ring, reader)
        told.append(len(answer))
        told.extend(answer)
    return told
