"""Steps of ciphers, tags and digests: every answer is told by what is handed in alone."""

# x^8 + x^4 + x^3 + x + 1, the lowest bit the constant's
FIELD_MODULUS = 0x11B

# x^7 + x^2 + x + 1, which x^128 is in the tag's field, the highest of 128 bits the constant's
TAG_REMAINDER = 0xE1000000000000000000000000000000

LOW_32_BITS = 0xFFFFFFFF

# What the digest of 160 bits adds in each twenty of its eighty steps
ADDENDS_160 = (0x5A827999, 0x6ED9EBA1, 0x8F1BBCDC, 0xCA62C1D6)

# What the digest of 256 bits adds in each of its steps
ADDENDS_256 = (
    0x428A2F98, 0x71374491, 0xB5C0FBCF, 0xE9B5DBA5, 0x3956C25B, 0x59F111F1, 0x923F82A4, 0xAB1C5ED5,
    0xD807AA98, 0x12835B01, 0x243185BE, 0x550C7DC3, 0x72BE5D74, 0x80DEB1FE, 0x9BDC06A7, 0xC19BF174,
    0xE49B69C1, 0xEFBE4786, 0x0FC19DC6, 0x240CA1CC, 0x2DE92C6F, 0x4A7484AA, 0x5CB0A9DC, 0x76F988DA,
    0x983E5152, 0xA831C66D, 0xB00327C8, 0xBF597FC7, 0xC6E00BF3, 0xD5A79147, 0x06CA6351, 0x14292967,
    0x27B70A85, 0x2E1B2138, 0x4D2C6DFC, 0x53380D13, 0x650A7354, 0x766A0ABB, 0x81C2C92E, 0x92722C85,
    0xA2BFE8A1, 0xA81A664B, 0xC24B8B70, 0xC76C51A3, 0xD192E819, 0xD6990624, 0xF40E3585, 0x106AA070,
    0x19A4C116, 0x1E376C08, 0x2748774C, 0x34B0BCB5, 0x391C0CB3, 0x4ED8AA4A, 0x5B9CCA4F, 0x682E6FF3,
    0x748F82EE, 0x78A5636F, 0x84C87814, 0x8CC70208, 0x90BEFFFA, 0xA4506CEB, 0xBEF9A3F7, 0xC67178F2,
)

# What the cipher puts in each byte's place: the inverse's image by an affine
# step. Written out, as working it out anew for every byte of a block is slow.
SUBSTITUTES = (
    0x63, 0x7C, 0x77, 0x7B, 0xF2, 0x6B, 0x6F, 0xC5, 0x30, 0x01, 0x67, 0x2B, 0xFE, 0xD7, 0xAB, 0x76,
    0xCA, 0x82, 0xC9, 0x7D, 0xFA, 0x59, 0x47, 0xF0, 0xAD, 0xD4, 0xA2, 0xAF, 0x9C, 0xA4, 0x72, 0xC0,
    0xB7, 0xFD, 0x93, 0x26, 0x36, 0x3F, 0xF7, 0xCC, 0x34, 0xA5, 0xE5, 0xF1, 0x71, 0xD8, 0x31, 0x15,
    0x04, 0xC7, 0x23, 0xC3, 0x18, 0x96, 0x05, 0x9A, 0x07, 0x12, 0x80, 0xE2, 0xEB, 0x27, 0xB2, 0x75,
    0x09, 0x83, 0x2C, 0x1A, 0x1B, 0x6E, 0x5A, 0xA0, 0x52, 0x3B, 0xD6, 0xB3, 0x29, 0xE3, 0x2F, 0x84,
    0x53, 0xD1, 0x00, 0xED, 0x20, 0xFC, 0xB1, 0x5B, 0x6A, 0xCB, 0xBE, 0x39, 0x4A, 0x4C, 0x58, 0xCF,
    0xD0, 0xEF, 0xAA, 0xFB, 0x43, 0x4D, 0x33, 0x85, 0x45, 0xF9, 0x02, 0x7F, 0x50, 0x3C, 0x9F, 0xA8,
    0x51, 0xA3, 0x40, 0x8F, 0x92, 0x9D, 0x38, 0xF5, 0xBC, 0xB6, 0xDA, 0x21, 0x10, 0xFF, 0xF3, 0xD2,
    0xCD, 0x0C, 0x13, 0xEC, 0x5F, 0x97, 0x44, 0x17, 0xC4, 0xA7, 0x7E, 0x3D, 0x64, 0x5D, 0x19, 0x73,
    0x60, 0x81, 0x4F, 0xDC, 0x22, 0x2A, 0x90, 0x88, 0x46, 0xEE, 0xB8, 0x14, 0xDE, 0x5E, 0x0B, 0xDB,
    0xE0, 0x32, 0x3A, 0x0A, 0x49, 0x06, 0x24, 0x5C, 0xC2, 0xD3, 0xAC, 0x62, 0x91, 0x95, 0xE4, 0x79,
    0xE7, 0xC8, 0x37, 0x6D, 0x8D, 0xD5, 0x4E, 0xA9, 0x6C, 0x56, 0xF4, 0xEA, 0x65, 0x7A, 0xAE, 0x08,
    0xBA, 0x78, 0x25, 0x2E, 0x1C, 0xA6, 0xB4, 0xC6, 0xE8, 0xDD, 0x74, 0x1F, 0x4B, 0xBD, 0x8B, 0x8A,
    0x70, 0x3E, 0xB5, 0x66, 0x48, 0x03, 0xF6, 0x0E, 0x61, 0x35, 0x57, 0xB9, 0x86, 0xC1, 0x1D, 0x9E,
    0xE1, 0xF8, 0x98, 0x11, 0x69, 0xD9, 0x8E, 0x94, 0x9B, 0x1E, 0x87, 0xE9, 0xCE, 0x55, 0x28, 0xDF,
    0x8C, 0xA1, 0x89, 0x0D, 0xBF, 0xE6, 0x42, 0x68, 0x41, 0x99, 0x2D, 0x0F, 0xB0, 0x54, 0xBB, 0x16,
)


def bit(number, place):
    return (number >> place) & 1


def times_x(a):
    shifted = a << 1
    if bit(shifted, 8) == 1:
        return shifted ^ FIELD_MODULUS
    return shifted


def field_product(a, b):
    total = 0
    multiple = a
    for place in range(8):
        if bit(b, place) == 1:
            total = total ^ multiple
        multiple = times_x(multiple)
    return total


def field_inverse(x):
    # The field's 255 elements other than 0 all have 1 as their 255th power,
    # so the 254th power (2 + 4 + .. + 128) is the inverse; of 0 it is 0.
    power = x
    total = 1
    for doubling in range(7):
        power = field_product(power, power)
        total = field_product(total, power)
    return total


def mul(a, b):
    return [0] + [field_product(a[i], b[i]) for i in range(64)]


def inverse(x):
    return [0] + [field_inverse(x[i]) for i in range(64)]


def shared_parity(p, q):
    shared = p & q
    total = 0
    for place in range(8):
        total = total ^ bit(shared, place)
    return total


def affine_byte(byte, matrix, c):
    # A matrix tells the row of the highest bit first, so each row's bit
    # goes in below those of the rows before it.
    image = 0
    for row in matrix:
        image = (image << 1) | shared_parity(row, byte)
    return image ^ c


def matrix_beside(m, i):
    start = i - i % 8
    return m[start:start + 8]


def affine(x, m, c):
    return [0] + [affine_byte(x[i], matrix_beside(m, i), c) for i in range(64)]


def composed_row(row, b):
    # A bit that a's row asks for is one that b makes, by b's own row for it.
    total = 0
    for place in range(8):
        if bit(row, place) == 1:
            total = total ^ b[7 - place]
    return total


def composed(a, b):
    return [0] + [composed_row(a[i], b) for i in range(8)]


def added(row, other):
    return [row[i] ^ other[i] for i in range(len(row))]


def substituted(row):
    return [SUBSTITUTES[byte] for byte in row]


def substituted_back(row):
    return [SUBSTITUTES.index(byte) for byte in row]


def rows_shifted(state):
    # Byte i lies in row i % 4, and the next column is four bytes further on.
    return [state[(i + 4 * (i % 4)) % 16] for i in range(16)]


def rows_shifted_back(state):
    return [state[(i - 4 * (i % 4)) % 16] for i in range(16)]


def below(i, rows):
    # Past its last row a column goes on with its first.
    return i - i % 4 + (i + rows) % 4


def columns_mixed(state):
    # 2a + 3b + c + d, with a and b brought together: 2(a + b) + b + c + d.
    mixed = []
    for i in range(16):
        beside = state[below(i, 1)]
        mixed.append(times_x(state[i] ^ beside) ^ beside ^ state[below(i, 2)] ^ state[below(i, 3)])
    return mixed


def columns_mixed_back(state):
    # The factors of the way back (14, 11, 13, 9) are those of the way there
    # behind 5, 0, 4, 0; and 5a + 4c is a + 4(a + c).
    return columns_mixed([state[i] ^ times_x(times_x(state[i] ^ state[below(i, 2)])) for i in range(16)])


def stepped(s, k, which):
    if which == 0:
        return added(columns_mixed(rows_shifted(substituted(s))), k)
    if which == 1:
        return added(rows_shifted(substituted(s)), k)
    if which == 2:
        return added(columns_mixed_back(substituted_back(rows_shifted_back(s))), k)
    if which == 3:
        return added(substituted_back(rows_shifted_back(s)), k)
    if which == 4:
        return added(columns_mixed_back(s), k)
    return list(s)


def step(s, k, which):
    return [0] + stepped(s, k, which)


def with_count(row):
    return [len(row)] + row


def round_key(keys, number):
    return keys[16 * number:16 * number + 16]


def round_keys(key, n, rounds):
    keys = list(key)
    constant = 1
    for place in range(n, 16 * (rounds + 1), 4):
        word = keys[place - 4:place]
        if place % n == 0:
            word = added(substituted(word[1:] + word[:1]), [constant, 0, 0, 0])
            constant = times_x(constant)
        elif n == 32 and place % n == 16:
            word = substituted(word)
        keys.extend(added(keys[place - n:place - n + 4], word))
    return keys


def round_keys_back(keys, rounds):
    # Steps 2 and 3 add the key behind the mixing, so a key that was added
    # ahead of it is mixed back itself; the two ends meet no mixing.
    between = []
    for number in range(rounds - 1, 0, -1):
        between.extend(columns_mixed_back(round_key(keys, number)))
    return round_key(keys, rounds) + between + round_key(keys, 0)


def expand(key, n):
    if n not in (16, 24, 32):
        return [0]
    rounds = n // 4 + 6
    keys = round_keys(key, n, rounds)
    return [rounds] + with_count(keys) + with_count(round_keys_back(keys, rounds))


def block_stepped(block, keys, rounds, back):
    # The way there goes by the steps 0 and 1, the way back by 2 and 3.
    which = 2 * back
    state = added(block, round_key(keys, 0))
    for number in range(1, rounds):
        state = stepped(state, round_key(keys, number), which)
    return stepped(state, round_key(keys, rounds), which + 1)


def count_refused(n):
    return n < 0 or n > 4096


def blocks(keys, rounds, back, text, n):
    if rounds not in (10, 12, 14) or count_refused(n):
        return [-1]
    row = []
    for start in range(0, 16 * n, 16):
        row.extend(block_stepped(text[start:start + 16], keys, rounds, back))
    return [n] + with_count(row)


def low_bytes(number, count):
    return [(number >> (8 * i)) & 255 for i in range(count)]


def carryless(a, b):
    product = 0
    for place in range(64):
        if bit(b, place) == 1:
            product = product ^ (a << place)
    return [0] + low_bytes(product, 16)


def high_number(row):
    # The highest byte comes first.
    number = 0
    for byte in row:
        number = (number << 8) | byte
    return number


def high_bytes(number, count):
    return list(reversed(low_bytes(number, count)))


def tag_times_x(a):
    # The constant's bit is the highest, so a higher power lies further down.
    if bit(a, 0) == 1:
        return (a >> 1) ^ TAG_REMAINDER
    return a >> 1


def tag_product(a, b):
    total = 0
    multiple = a
    for place in range(127, -1, -1):
        if bit(b, place) == 1:
            total = total ^ multiple
        multiple = tag_times_x(multiple)
    return total


def tag(h, y, text, n):
    if count_refused(n):
        return [-1]
    factor = high_number(h)
    total = high_number(y)
    for start in range(0, 16 * n, 16):
        total = tag_product(total ^ high_number(text[start:start + 16]), factor)
    return [n] + with_count(high_bytes(total, 16))


def rotated(word, places):
    return ((word << places) | (word >> (32 - places))) & LOW_32_BITS


def word_sums(words, others):
    return [(words[i] + others[i]) & LOW_32_BITS for i in range(len(words))]


def block_words(block):
    return [high_number(block[i:i + 4]) for i in range(0, 64, 4)]


def state_words(state):
    # A state tells each word's lowest byte first, a block its highest.
    return [high_number(list(reversed(state[i:i + 4]))) for i in range(0, len(state), 4)]


def state_bytes(words):
    row = []
    for word in words:
        row.extend(low_bytes(word, 4))
    return row


def chosen(p, q, r):
    # Where p has a bit set, q's bit, else r's.
    return r ^ (p & (q ^ r))


def majority(p, q, r):
    return (p & q) | (r & (p | q))


def joined_160(p, q, r, twenty):
    if twenty == 0:
        return chosen(p, q, r)
    if twenty == 2:
        return majority(p, q, r)
    return p ^ q ^ r


def schedule_160(block):
    words = block_words(block)
    for i in range(16, 80):
        words.append(rotated(words[i - 3] ^ words[i - 8] ^ words[i - 14] ^ words[i - 16], 1))
    return words


def compressed_160(state, block):
    schedule = schedule_160(block)
    s = state
    for i in range(80):
        joined = joined_160(s[1], s[2], s[3], i // 20)
        first = (rotated(s[0], 5) + joined + s[4] + ADDENDS_160[i // 20] + schedule[i]) & LOW_32_BITS
        s = [first, s[0], rotated(s[1], 30), s[2], s[3]]
    return word_sums(state, s)


def rotated_right(word, places):
    return rotated(word, 32 - places)


def three_turns(word, p, q, r):
    return rotated_right(word, p) ^ rotated_right(word, q) ^ rotated_right(word, r)


def schedule_256(block):
    words = block_words(block)
    for i in range(16, 64):
        near = rotated_right(words[i - 2], 17) ^ rotated_right(words[i - 2], 19) ^ (words[i - 2] >> 10)
        far = rotated_right(words[i - 15], 7) ^ rotated_right(words[i - 15], 18) ^ (words[i - 15] >> 3)
        words.append((near + words[i - 7] + far + words[i - 16]) & LOW_32_BITS)
    return words


def compressed_256(state, block):
    schedule = schedule_256(block)
    s = state
    for i in range(64):
        rise = s[7] + three_turns(s[4], 6, 11, 25) + chosen(s[4], s[5], s[6]) + ADDENDS_256[i] + schedule[i]
        first = rise + three_turns(s[0], 2, 13, 22) + majority(s[0], s[1], s[2])
        s = [first & LOW_32_BITS] + s[:3] + [(s[3] + rise) & LOW_32_BITS] + s[4:7]
    return word_sums(state, s)


def digested(state, text, n, compressed):
    if count_refused(n):
        return [-1]
    words = state_words(state)
    for start in range(0, 64 * n, 64):
        words = compressed(words, text[start:start + 64])
    return [n] + with_count(state_bytes(words))


def digest160(state, text, n):
    return digested(state, text, n, compressed_160)


def digest256(state, text, n):
    return digested(state, text, n, compressed_256)
