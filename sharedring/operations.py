"""What each call does to the ring, and the list of numbers that it answers."""

from sharedring.layout import NUMBERS_END, SLOT_COUNT, count_waiting, read_head, read_slot, read_tail
from sharedring.layout import set_head, set_tail, write_slot
from sharedring.memory import write_bytes
from sharedring.slot import is_sound, make_slot, tell_message

NOT_NOW = -1
OUT_OF_RANGE = -2
DAMAGED = -3
NUMBERS_WRONG = -4
MOST_LOOKS = 1000


def rg_begin(ring):
    """Make head and tail 0, and leave the slots."""
    set_head(ring, 0)
    set_tail(ring, 0)
    return [0]


def rg_put(ring, kind, data):
    """Put a message behind all that wait."""
    waiting = count_waiting(ring)
    if waiting > SLOT_COUNT:
        return [NUMBERS_WRONG]
    if waiting == SLOT_COUNT:
        return [NOT_NOW]
    tail = read_tail(ring)
    write_slot(ring, tail, make_slot(tail, kind, data))
    set_tail(ring, tail + 1)
    return [0]


def tell_waiting(ring, k):
    """Answer the k-th message that waits, or why it can't be told."""
    waiting = count_waiting(ring)
    if waiting > SLOT_COUNT:
        return [NUMBERS_WRONG]
    if waiting <= k:
        return [NOT_NOW]
    number = (read_head(ring) + k) % NUMBERS_END
    slot = read_slot(ring, number)
    if not is_sound(slot, number):
        return [DAMAGED]
    return tell_message(slot)


def rg_take(ring):
    """Tell the first message that waits, and move head behind it."""
    told = tell_waiting(ring, 0)
    # A damaged message is passed over too: else it would bar the way for good.
    if told[0] >= 0 or told[0] == DAMAGED:
        set_head(ring, read_head(ring) + 1)
    return told


def rg_look(ring, k):
    """Tell the k-th message that waits, and leave head."""
    if k < 0 or k >= SLOT_COUNT:
        return [OUT_OF_RANGE]
    return tell_waiting(ring, k)


def rg_wait(ring, looks):
    """Tell how many wait; while none does, look again, at most looks times."""
    if looks < 0 or looks > MOST_LOOKS:
        return [OUT_OF_RANGE]
    waiting = count_waiting(ring)
    looked_again = 0
    while waiting == 0 and looked_again < looks:
        waiting = count_waiting(ring)
        looked_again = looked_again + 1
    if waiting > SLOT_COUNT:
        return [NUMBERS_WRONG]
    return [waiting]


def others_write(ring, at, data):
    """Lay what others write into the ring, whatever it is."""
    write_bytes(ring, at, data)
    return []


def others_look(ring, at, count):
    """Answer count bytes of the ring from at on."""
    return ring[at:at + count]
