"""Digests (FIPS 180-4) of lists of octets, whole numbers from 0 to 255."""

WORD = 0xffffffff

SHA1_START = (0x67452301, 0xefcdab89, 0x98badcfe, 0x10325476, 0xc3d2e1f0)

# One constant for each twenty of the 80 steps.
SHA1_CONSTANTS = (0x5a827999, 0x6ed9eba1, 0x8f1bbcdc, 0xca62c1d6)

SHA256_START = (
    0x6a09e667, 0xbb67ae85, 0x3c6ef372, 0xa54ff53a, 0x510e527f, 0x9b05688c, 0x1f83d9ab, 0x5be0cd19,
)

SHA256_CONSTANTS = (
    0x428a2f98, 0x71374491, 0xb5c0fbcf, 0xe9b5dba5, 0x3956c25b, 0x59f111f1, 0x923f82a4, 0xab1c5ed5,
    0xd807aa98, 0x12835b01, 0x243185be, 0x550c7dc3, 0x72be5d74, 0x80deb1fe, 0x9bdc06a7, 0xc19bf174,
    0xe49b69c1, 0xefbe4786, 0x0fc19dc6, 0x240ca1cc, 0x2de92c6f, 0x4a7484aa, 0x5cb0a9dc, 0x76f988da,
    0x983e5152, 0xa831c66d, 0xb00327c8, 0xbf597fc7, 0xc6e00bf3, 0xd5a79147, 0x06ca6351, 0x14292967,
    0x27b70a85, 0x2e1b2138, 0x4d2c6dfc, 0x53380d13, 0x650a7354, 0x766a0abb, 0x81c2c92e, 0x92722c85,
    0xa2bfe8a1, 0xa81a664b, 0xc24b8b70, 0xc76c51a3, 0xd192e819, 0xd6990624, 0xf40e3585, 0x106aa070,
    0x19a4c116, 0x1e376c08, 0x2748774c, 0x34b0bcb5, 0x391c0cb3, 0x4ed8aa4a, 0x5b9cca4f, 0x682e6ff3,
    0x748f82ee, 0x78a5636f, 0x84c87814, 0x8cc70208, 0x90befffa, 0xa4506ceb, 0xbef9a3f7, 0xc67178f2,
)


def octets_of(number, count):
    """The number in count octets, the highest first."""
    octets = []
    for place in range(count - 1, -1, -1):
        octets.append(number >> (8 * place) & 255)
    return octets


def words_of(block):
    """The block's octets as words of four, the highest octet first."""
    words = []
    for start in range(0, len(block), 4):
        upper = block[start] << 24 | block[start + 1] << 16
        words.append(upper | block[start + 2] << 8 | block[start + 3])
    return words


def blocks_of(octets):
    """The message in blocks of 64: its end is marked, its length in bits stands last."""
    zeros = (55 - len(octets)) % 64
    message = octets + [128] + [0] * zeros + octets_of(8 * len(octets), 8)
    return [message[start:start + 64] for start in range(0, len(message), 64)]


def digest_of(state):
    """The words of the state as octets, one word behind another."""
    digest = []
    for word in state:
        digest.extend(octets_of(word, 4))
    return digest


def sum_of(before, state):
    """Two rows of words, added word by word."""
    return [(old + new) & WORD for old, new in zip(before, state)]


def rotated(word, count):
    """The word turned to the right: to the left by count is to the right by 32 less count."""
    return (word >> count | word << (32 - count)) & WORD


def choice(chooser, one, other):
    return (chooser & one) ^ ((WORD ^ chooser) & other)


def majority(one, other, third):
    return (one & other) ^ (one & third) ^ (other & third)


def sha1_schedule(block):
    """The 80 words that a block gives, one for each step."""
    words = words_of(block)
    for place in range(16, 80):
        mixed = words[place - 3] ^ words[place - 8] ^ words[place - 14] ^ words[place - 16]
        words.append(rotated(mixed, 31))
    return words


def sha1_mix(part, state):
    """The second to fourth word mixed as the steps of a part, from 0 to 3, ask for it."""
    if part == 0:
        return choice(state[1], state[2], state[3])
    if part == 2:
        return majority(state[1], state[2], state[3])
    return state[1] ^ state[2] ^ state[3]


def sha1_step(state, part, word):
    """The five words after one step."""
    fresh = rotated(state[0], 27) + sha1_mix(part, state) + state[4] + SHA1_CONSTANTS[part] + word
    return [fresh & WORD, state[0], rotated(state[1], 2), state[2], state[3]]


def sha1_block(before, block):
    """The five words behind a block, from the five before it."""
    state = before
    for step, word in enumerate(sha1_schedule(block)):
        state = sha1_step(state, step // 20, word)
    return sum_of(before, state)


def sha1(octets):
    """The 20 octets of the SHA-1 of a list of octets."""
    state = list(SHA1_START)
    for block in blocks_of(octets):
        state = sha1_block(state, block)
    return digest_of(state)


def sha256_schedule(block):
    """The 64 words that a block gives, one for each step."""
    words = words_of(block)
    for place in range(16, 64):
        early = words[place - 15]
        late = words[place - 2]
        small = rotated(early, 7) ^ rotated(early, 18) ^ (early >> 3)
        other = rotated(late, 17) ^ rotated(late, 19) ^ (late >> 10)
        words.append((words[place - 16] + small + words[place - 7] + other) & WORD)
    return words


def sha256_step(state, addend):
    """The eight words after one step; addend is the step's constant and word together."""
    a = state[0]
    e = state[4]
    lower = rotated(e, 6) ^ rotated(e, 11) ^ rotated(e, 25)
    upper = rotated(a, 2) ^ rotated(a, 13) ^ rotated(a, 22)
    first = state[7] + lower + choice(e, state[5], state[6]) + addend
    fresh = (first + upper + majority(a, state[1], state[2])) & WORD
    return [fresh, a, state[1], state[2], (state[3] + first) & WORD, e, state[5], state[6]]


def sha256_block(before, block):
    """The eight words behind a block, from the eight before it."""
    state = before
    for constant, word in zip(SHA256_CONSTANTS, sha256_schedule(block)):
        state = sha256_step(state, constant + word)
    return sum_of(before, state)


def sha256(octets):
    """The 32 octets of the SHA-256 of a list of octets."""
    state = list(SHA256_START)
    for block in blocks_of(octets):
        state = sha256_block(state, block)
    return digest_of(state)
