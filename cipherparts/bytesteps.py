"""Steps of ciphers, tags and digests: every answer is told by what is handed in alone."""

# x^8 + x^4 + x^3 + x + 1, the lowest bit the constant's
FIELD_MODULUS = 0x11B


def bit(number, place):
    return (number >> place) & 1


def times_x(a):
    shifted = a << 1
    if bit(shifted, 8) == 1:
        return shifted ^ FIELD_MODULUS
    return shifted


def field_product(a, b):
    total = 0
    multiple = a
    for place in range(8):
        if bit(b, place) == 1:
            total = total ^ multiple
        multiple = times_x(multiple)
    return total


def field_inverse(x):
    # The field's 255 elements other than 0 all have 1 as their 255th power,
    # so the 254th power (2 + 4 + .. + 128) is the inverse; of 0 it is 0.
    power = x
    total = 1
    for doubling in range(7):
        power = field_product(power, power)
        total = field_product(total, power)
    return total


def mul(a, b):
    return [0] + [field_product(a[i], b[i]) for i in range(64)]


def inverse(x):
    return [0] + [field_inverse(x[i]) for i in range(64)]
