"""Numbers and bytes in a list of bytes; a number has its lowest byte first."""


def read_number(memory, at, width):
    """Answer the number that stands in width bytes from at on."""
    number = 0
    for byte in reversed(memory[at:at + width]):
        number = number * 256 + byte
    return number


def number_bytes(number, width):
    """Answer the lowest width bytes of a number."""
    told = []
    rest = number
    for step in range(width):
        told.append(rest % 256)
        rest = rest // 256
    return told


def write_bytes(memory, at, data):
    """Lay data into memory from at on."""
    for k, byte in enumerate(data):
        memory[at + k] = byte
