"""What each call does to the ring, and the list of numbers that it answers."""

from sharedring.crc import sum_bytes
from sharedring.layout import NUMBERS_END, SLOT_COUNT, count_waiting, read_head, read_slot, read_tail
from sharedring.layout import set_head, set_tail, write_slot
from sharedring.memory import number_bytes, write_bytes
from sharedring.slot import is_sound, make_slot, renumbered_slot, tell_message

NOT_NOW = -1
OUT_OF_RANGE = -2
DAMAGED = -3
NUMBERS_WRONG = -4
MOST_LOOKS = 1000
MARKS_SIZE = 32


def rg_begin(ring):
    """Make head and tail 0, and leave the slots."""
    set_head(ring, 0)
    set_tail(ring, 0)
    return [0]


def rg_put(ring, kind, data):
    """Put a message behind all that wait."""
    waiting = count_waiting(ring)
    if waiting > SLOT_COUNT:
        return [NUMBERS_WRONG]
    if waiting == SLOT_COUNT:
        return [NOT_NOW]
    tail = read_tail(ring)
    write_slot(ring, tail, make_slot(tail, kind, data))
    set_tail(ring, tail + 1)
    return [0]


def sound_slot(ring, k):
    """Answer a copy of the slot of the k-th message that waits, or None if that is damaged."""
    number = (read_head(ring) + k) % NUMBERS_END
    slot = read_slot(ring, number)
    if is_sound(slot, number):
        return slot
    return None


def tell_waiting(ring, k):
    """Answer the k-th message that waits, or why it can't be told."""
    waiting = count_waiting(ring)
    if waiting > SLOT_COUNT:
        return [NUMBERS_WRONG]
    if waiting <= k:
        return [NOT_NOW]
    slot = sound_slot(ring, k)
    if slot is None:
        return [DAMAGED]
    return tell_message(slot)


def rg_take(ring):
    """Tell the first message that waits, and move head behind it."""
    told = tell_waiting(ring, 0)
    # A damaged message is passed over too: else it would bar the way for good.
    if told[0] >= 0 or told[0] == DAMAGED:
        set_head(ring, read_head(ring) + 1)
    return told


def rg_look(ring, k):
    """Tell the k-th message that waits, and leave head."""
    if k < 0 or k >= SLOT_COUNT:
        return [OUT_OF_RANGE]
    return tell_waiting(ring, k)


def rg_wait(ring, looks):
    """Tell how many wait; while none does, look again, at most looks times."""
    if looks < 0 or looks > MOST_LOOKS:
        return [OUT_OF_RANGE]
    waiting = count_waiting(ring)
    looked_again = 0
    while waiting == 0 and looked_again < looks:
        waiting = count_waiting(ring)
        looked_again = looked_again + 1
    if waiting > SLOT_COUNT:
        return [NUMBERS_WRONG]
    return [waiting]


def rg_sound(ring):
    """Tell how many of those that wait are sound, and by a bit for each which they are."""
    waiting = count_waiting(ring)
    if waiting > SLOT_COUNT:
        return [NUMBERS_WRONG]
    sound = 0
    marks = 0
    mark = 1
    for k in range(waiting):
        if sound_slot(ring, k) is not None:
            sound = sound + 1
            marks = marks + mark
        mark = mark * 2
    return [sound] + number_bytes(marks, MARKS_SIZE)


def sound_slots(ring, waiting):
    """Answer copies of the slots of all sound messages that wait, in their order."""
    found = []
    for k in range(waiting):
        slot = sound_slot(ring, k)
        if slot is not None:
            found.append(slot)
    return found


def rg_mend(ring):
    """Move the sound messages up to tail, and tell how many others were dropped."""
    waiting = count_waiting(ring)
    tail = read_tail(ring)
    if waiting > SLOT_COUNT:
        set_head(ring, tail)
        return [NUMBERS_WRONG]
    # All are copied before one is laid down: it may be laid where another one stands.
    kept = sound_slots(ring, waiting)
    head = (tail - len(kept)) % NUMBERS_END
    for k, slot in enumerate(kept):
        number = (head + k) % NUMBERS_END
        write_slot(ring, number, renumbered_slot(slot, number))
    set_head(ring, head)
    return [waiting - len(kept)]


def rg_sum(data):
    """Tell the sum of data, whatever the ring holds."""
    return [0] + sum_bytes(data)


def others_write(ring, at, data):
    """Lay what others write into the ring, whatever it is."""
    write_bytes(ring, at, data)
    return []


def others_look(ring, at, count):
    """Answer count bytes of the ring from at on."""
    return ring[at:at + count]
