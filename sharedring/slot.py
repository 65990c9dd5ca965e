"""A slot: 64 bytes that hold one message, its number and its sum."""

from sharedring.crc import sum_bytes
from sharedring.memory import number_bytes, read_number

SLOT_SIZE = 64
NUMBER_AT = 0
KIND_AT = 8
LENGTH_AT = 10
DATA_AT = 12
MOST_DATA = 48
SUM_AT = 60


def make_slot(number, kind, data):
    """Answer the bytes of a slot that holds a sound message."""
    zeros = [0] * (MOST_DATA - len(data))
    summed = number_bytes(number, 8) + number_bytes(kind, 2) + number_bytes(len(data), 2) + data + zeros
    return summed + sum_bytes(summed)


def renumbered_slot(slot, number):
    """Answer a slot that holds the message of a sound slot under another number."""
    summed = number_bytes(number, 8) + slot[KIND_AT:SUM_AT]
    return summed + sum_bytes(summed)


def message_length(slot):
    """Answer n as the slot tells it, which may be any number if the slot is damaged."""
    return read_number(slot, LENGTH_AT, 2)


def is_sound(slot, number):
    """Tell whether the slot holds message number, and holds it whole."""
    length = message_length(slot)
    if read_number(slot, NUMBER_AT, 8) != number or length > MOST_DATA:
        return False
    # A right sum alone does not do: who writes the slot can sum what he likes.
    for byte in slot[DATA_AT + length:SUM_AT]:
        if byte != 0:
            return False
    return slot[SUM_AT:] == sum_bytes(slot[:SUM_AT])


def tell_message(slot):
    """Answer a sound slot's n, its kind's two bytes, its bytes and zeros up to 48."""
    return [message_length(slot)] + slot[KIND_AT:LENGTH_AT] + slot[DATA_AT:SUM_AT]
