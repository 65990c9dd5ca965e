"""Where head, tail and the slots stand in the ring."""

from sharedring.memory import number_bytes, read_number, write_bytes
from sharedring.slot import SLOT_SIZE

RING_SIZE = 16448
HEAD_AT = 0
TAIL_AT = 8
SLOTS_AT = 64
SLOT_COUNT = 256
NUMBERS_END = 0x10000000000000000


def new_ring():
    """Answer a ring all of whose bytes are 0."""
    return [0] * RING_SIZE


def read_head(ring):
    """Answer how many messages were taken so far."""
    return read_number(ring, HEAD_AT, 8)


def read_tail(ring):
    """Answer how many messages were put so far."""
    return read_number(ring, TAIL_AT, 8)


def set_head(ring, number):
    """Make head this number, modulo 2 to the power 64."""
    write_bytes(ring, HEAD_AT, number_bytes(number, 8))


def set_tail(ring, number):
    """Make tail this number, modulo 2 to the power 64."""
    write_bytes(ring, TAIL_AT, number_bytes(number, 8))


def count_waiting(ring):
    """Answer tail less head: above SLOT_COUNT, the ring's numbers are wrong."""
    return (read_tail(ring) - read_head(ring)) % NUMBERS_END


def place_of(number):
    """Answer where in the ring the slot of message number begins."""
    return SLOTS_AT + SLOT_SIZE * (number % SLOT_COUNT)


def read_slot(ring, number):
    """Answer a copy of the slot of message number."""
    at = place_of(number)
    return ring[at:at + SLOT_SIZE]


def write_slot(ring, number, slot):
    """Lay these bytes into the slot of message number."""
    write_bytes(ring, place_of(number), slot)
