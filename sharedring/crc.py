"""The sum, which stands at the end of every slot too."""

from sharedring.memory import number_bytes

ALL_ONES = 0xFFFFFFFF
TURNED_POLYNOMIAL = 0x82F63B78


def crc32c(data):
    """Answer the CRC-32C of a list of bytes."""
    c = ALL_ONES
    for byte in data:
        c = c ^ byte
        for step in range(8):
            fell_out = c & 1
            c = c >> 1
            if fell_out == 1:
                c = c ^ TURNED_POLYNOMIAL
    return c ^ ALL_ONES


def sum_bytes(data):
    """Answer the CRC-32C of a list of bytes, as four bytes."""
    return number_bytes(crc32c(data), 4)
