"""Steps of ciphers, tags and digests: every answer is told by what is handed in alone."""

# x^8 + x^4 + x^3 + x + 1, the lowest bit the constant's
FIELD_MODULUS = 0x11B


def bit(number, place):
    return (number >> place) & 1


def times_x(a):
    shifted = a << 1
    if bit(shifted, 8) == 1:
        return shifted ^ FIELD_MODULUS
    return shifted


def field_product(a, b):
    total = 0
    multiple = a
    for place in range(8):
        if bit(b, place) == 1:
            total = total ^ multiple
        multiple = times_x(multiple)
    return total


def field_inverse(x):
    # The field's 255 elements other than 0 all have 1 as their 255th power,
    # so the 254th power (2 + 4 + .. + 128) is the inverse; of 0 it is 0.
    power = x
    total = 1
    for doubling in range(7):
        power = field_product(power, power)
        total = field_product(total, power)
    return total


def mul(a, b):
    return [0] + [field_product(a[i], b[i]) for i in range(64)]


def inverse(x):
    return [0] + [field_inverse(x[i]) for i in range(64)]


def shared_parity(p, q):
    shared = p & q
    total = 0
    for place in range(8):
        total = total ^ bit(shared, place)
    return total


def affine_byte(byte, matrix, c):
    # A matrix tells the row of the highest bit first, so each row's bit
    # goes in below those of the rows before it.
    image = 0
    for row in matrix:
        image = (image << 1) | shared_parity(row, byte)
    return image ^ c


def matrix_beside(m, i):
    start = i - i % 8
    return m[start:start + 8]


def affine(x, m, c):
    return [0] + [affine_byte(x[i], matrix_beside(m, i), c) for i in range(64)]


def composed_row(row, b):
    # A bit that a's row asks for is one that b makes, by b's own row for it.
    total = 0
    for place in range(8):
        if bit(row, place) == 1:
            total = total ^ b[7 - place]
    return total


def composed(a, b):
    return [0] + [composed_row(a[i], b) for i in range(8)]
