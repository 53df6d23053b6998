"""The same answers, worked out in another way than the package does."""

import math
import struct

# The cipher's own substitution: bit i is the sum of bits i, i + 4, .. i + 7.
CIPHER = [0xF8, 0x7C, 0x3E, 0x1F, 0x8F, 0xC7, 0xE3, 0xF1]


def long_product(a, b):
    """The field's product: all of the polynomial's product first, then the division's remainder."""
    product = 0
    for i in range(8):
        for j in range(8):
            product ^= ((a >> i) & (b >> j) & 1) << (i + j)
    for degree in range(14, 7, -1):
        if product >> degree & 1:
            product ^= 0b100011011 << (degree - 8)
    return product


def counted(byte, matrix, c):
    """The affine image, bit by bit, by counting the ones in the written form."""
    image = 0
    for i in range(8):
        ones = bin(matrix[7 - i] & byte).count("1")
        image += (ones + c // 2 ** i) % 2 * 2 ** i
    return image


def substitution_table():
    """Each byte's substitute: its inverse is looked for, not worked out."""
    table = []
    for x in range(256):
        partners = [y for y in range(256) if long_product(x, y) == 1]
        table.append(counted(partners[0] if partners else 0, CIPHER, 0x63))
    return table


SUBSTITUTES = substitution_table()
SUBSTITUTES_BACK = {substitute: x for x, substitute in enumerate(SUBSTITUTES)}
MIXING = [[2, 3, 1, 1], [1, 2, 3, 1], [1, 1, 2, 3], [3, 1, 1, 2]]
MIXING_BACK = [[14, 11, 13, 9], [9, 14, 11, 13], [13, 9, 14, 11], [11, 13, 9, 14]]


def grid_of(state):
    """The state's rows: byte 4c + r lies in row r, column c."""
    return [[state[4 * c + r] for c in range(4)] for r in range(4)]


def state_of(grid):
    return [grid[r][c] for c in range(4) for r in range(4)]


def substitute(state):
    return [SUBSTITUTES[x] for x in state]


def substitute_back(state):
    return [SUBSTITUTES_BACK[x] for x in state]


def shift(state):
    """Row r goes r places to the left."""
    return state_of([row[r:] + row[:r] for r, row in enumerate(grid_of(state))])


def shift_back(state):
    return state_of([row[4 - r:] + row[:4 - r] for r, row in enumerate(grid_of(state))])


def mix_by(factors, state):
    """Each column by the whole matrix of factors, product by product."""
    grid = grid_of(state)
    mixed = [[0] * 4 for r in range(4)]
    for r in range(4):
        for c in range(4):
            for j in range(4):
                mixed[r][c] ^= long_product(factors[r][j], grid[j][c])
    return state_of(mixed)


def mix(state):
    return mix_by(MIXING, state)


def mix_back(state):
    return mix_by(MIXING_BACK, state)


def add(state, key):
    return [x ^ y for x, y in zip(state, key, strict=True)]


PARTS = {
    0: [substitute, shift, mix],
    1: [substitute, shift],
    2: [shift_back, substitute_back, mix_back],
    3: [shift_back, substitute_back],
    4: [mix_back],
}


def plain_step(state, key, which):
    if which not in PARTS:
        return list(state)
    for part in PARTS[which]:
        state = part(state)
    return add(state, key)


def schedule(key):
    """The round keys of FIPS 197, 5.2, word by word; a list of keys of 16 bytes."""
    nk = len(key) // 4
    rounds = {4: 10, 6: 12, 8: 14}[nk]
    constants = [0x01, 0x02, 0x04, 0x08, 0x10, 0x20, 0x40, 0x80, 0x1B, 0x36]
    words = [key[4 * i:4 * i + 4] for i in range(nk)]
    while len(words) < 4 * (rounds + 1):
        i = len(words)
        word = words[-1]
        if i % nk == 0:
            word = substitute(word[1:] + word[:1])
            word[0] ^= constants[i // nk - 1]
        elif nk > 6 and i % nk == 4:
            word = substitute(word)
        words.append(add(words[i - nk], word))
    return [sum(words[4 * i:4 * i + 4], []) for i in range(rounds + 1)]


def schedule_back(keys):
    """The keys for the way back, of the list that schedule gives."""
    turned = keys[::-1]
    return turned[:1] + [mix_back(key) for key in turned[1:-1]] + turned[-1:]


def tag_coefficients(block):
    """A block as a polynomial of the tag's field, the constant's coefficient first."""
    return [int(sign) for byte in block for sign in f"{byte:08b}"]


def tag_block(coefficients):
    return [int("".join(str(c) for c in coefficients[i:i + 8]), 2) for i in range(0, 128, 8)]


def tag_remainder(coefficients):
    """What x^128 + x^7 + x^2 + x + 1 leaves of a polynomial, by long division."""
    left = list(coefficients)
    for degree in range(len(left) - 1, 127, -1):
        if left[degree]:
            for power in (128, 7, 2, 1, 0):
                left[degree - 128 + power] ^= 1
    return left[:128]


def tag_field_product(block, other):
    """All of the polynomials' product first, then the division's remainder."""
    product = [0] * 255
    factors = tag_coefficients(other)
    for i, coefficient in enumerate(tag_coefficients(block)):
        if coefficient:
            for j in range(128):
                product[i + j] ^= factors[j]
    return tag_block(tag_remainder(product))


def plain_tag(h, y, text):
    for i in range(0, len(text), 16):
        y = tag_field_product(add(y, text[i:i + 16]), h)
    return y


def turned_left(word, places):
    """A word of 32 bits, its written form turned."""
    signs = f"{word:032b}"
    return int(signs[places:] + signs[:places], 2)


def place_by_place(rule, *words):
    """The word whose bit at each of 32 places the rule makes of the words' bits there."""
    return sum(rule(*[word >> i & 1 for word in words]) << i for i in range(32))


def choice(p, q, r):
    return q if p else r


def most(p, q, r):
    return 1 if p + q + r >= 2 else 0


def parity(*bits):
    return sum(bits) % 2


# The first 30 binary digits behind the point of the square roots of 2, 3, 5 and 10, and those ahead of it.
ROOTS_160 = [math.isqrt(square << 60) for square in (2, 3, 5, 10)]
RULES_160 = [choice, parity, most, parity]


def plain_160(words, block):
    """FIPS 180, 6.1.3: the digest of 160 bits by a queue of sixteen words; words is a list of five."""
    queue = list(struct.unpack(">16I", bytes(block)))
    a, b, c, d, e = words
    for t in range(80):
        word = queue.pop(0)
        queue.append(turned_left(place_by_place(parity, word, queue[1], queue[7], queue[12]), 1))
        mixed = place_by_place(RULES_160[t // 20], b, c, d)
        e = (turned_left(a, 5) + mixed + e + word + ROOTS_160[t // 20]) % 2 ** 32
        b = turned_left(b, 30)
        a, b, c, d, e = e, a, b, c, d
    return [(old + new) % 2 ** 32 for old, new in zip(words, [a, b, c, d, e], strict=True)]


def first_primes(count):
    primes = []
    number = 2
    while len(primes) < count:
        if all(number % prime for prime in primes):
            primes.append(number)
        number += 1
    return primes


def cube_root(number):
    """The highest whole number whose cube is not above the number."""
    low, high = 0, number + 1
    while high - low > 1:
        middle = (low + high) // 2
        if middle ** 3 <= number:
            low = middle
        else:
            high = middle
    return low


# The first 32 binary digits behind the point: of square roots the words at the start, of cube roots what is added.
ROOTS_START_256 = [math.isqrt(prime << 64) % 2 ** 32 for prime in first_primes(8)]
ROOTS_256 = [cube_root(prime << 96) % 2 ** 32 for prime in first_primes(64)]


def summed_turns(word, *places):
    """The sum, place by place, of the word turned to the right by each of places."""
    return place_by_place(parity, *[turned_left(word, 32 - count) for count in places])


def summed_turns_and_shift(word, one, other, shift_count):
    signs = "0" * shift_count + f"{word:032b}"
    return place_by_place(parity, turned_left(word, 32 - one), turned_left(word, 32 - other), int(signs[:32], 2))


def plain_256(words, block):
    """FIPS 180, 6.2.2: the digest of 256 bits by a queue of sixteen words; words is a list of eight."""
    queue = list(struct.unpack(">16I", bytes(block)))
    a, b, c, d, e, f, g, h = words
    for t in range(64):
        word = queue.pop(0)
        late, early = summed_turns_and_shift(queue[13], 17, 19, 10), summed_turns_and_shift(queue[0], 7, 18, 3)
        queue.append((late + queue[8] + early + word) % 2 ** 32)
        one = h + summed_turns(e, 6, 11, 25) + place_by_place(choice, e, f, g) + ROOTS_256[t] + word
        two = summed_turns(a, 2, 13, 22) + place_by_place(most, a, b, c)
        a, b, c, d, e, f, g, h = (one + two) % 2 ** 32, a, b, c, (d + one) % 2 ** 32, e, f, g
    return [(old + new) % 2 ** 32 for old, new in zip(words, [a, b, c, d, e, f, g, h], strict=True)]
