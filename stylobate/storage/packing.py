"""Numbers packed into one integer, each in as many bits."""


def width_for(number):
    """Return the number of binary digits of a number; 0 for 0."""
    return number.bit_length()


def pack(numbers, width):
    """Return the integer that holds the numbers, the first one in its lowest bits."""
    bits = 0
    for number in reversed(numbers):
        bits = (bits << width) | number
    return bits


def unpack(bits, width, count):
    """Return the list of the numbers that are packed in an integer."""
    mask = (1 << width) - 1
    return [(bits >> (width * at)) & mask for at in range(count)]
