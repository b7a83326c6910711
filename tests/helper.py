"""What the tests share: calls built as the interface tells, answers taken apart,
and the document's words told again by Python's own bytes and pow."""

from timedletters.letters import answers

LEAST = 2 ** 504
# 2^504 leaves -1 by this n, and 2^1008 leaves 1.
N = LEAST + 1
# 2^512 leaves 1 by this n, the largest of 64 bytes.
TOP = 2 ** 512 - 1
# A power of 3 just above 2^504: what 3 is raised to soon leaves 0.
THREES = 3 ** 318
LETTER = list(range(200, 232))
# Above what is left of any begin.
ALL = 4294967295


def row_of(number):
    return list(number.to_bytes(64, "big"))


def rows_of(numbers):
    return [byte for number in numbers for byte in row_of(number)]


def numbers_of(rows):
    starts = range(0, len(rows), 64)
    return [int.from_bytes(bytes(rows[start:start + 64]), "big") for start in starts]


def counted(row):
    return [len(row)] + list(row)


def seal(k, n, x, m, letter=LETTER):
    call = [0, k]
    for number in (n, x, m):
        call += counted(row_of(number))
    return call + counted(letter)


def begin(k, n, x):
    return [1, k] + counted(row_of(n)) + counted(row_of(x))


def work(steps):
    return [2, steps]


VALUE = [3]
SHOW = [4]


def right(k, n, x, y, proof):
    """The call right; proof is a list of numbers here."""
    call = [5, k]
    for number in (n, x, y):
        call += counted(row_of(number))
    return call + counted(rows_of(proof))


def read(y, sealed):
    return [6] + counted(row_of(y)) + counted(sealed)


def split(given):
    """The answers that stand one behind another in given, a list each."""
    found = []
    place = 0
    while place < len(given):
        end = place + 1 + given[place]
        found.append(given[place + 1:end])
        assert len(found[-1]) == given[place], "the last answer is cut short"
        place = end
    return found


def answered(*calls):
    """The answers to these calls on one new object, a list each."""
    line = []
    for call in calls:
        line += call
    return split(answers(line))


def face(number, n):
    rest = number % n
    return n - rest if rest > n // 2 else rest


def pad(number):
    row = number.to_bytes(64, "big")
    return [(high + low) % 256 for high, low in zip(row[:32], row[32:])]


def opened(number, sealed):
    """What an answer 0 tells whose pad was asked of number."""
    mixed = [a ^ b for a, b in zip(sealed, pad(number))]
    return [0] + mixed + [1, 1] + row_of(number)


def fits(k, n, x):
    return n % 2 == 1 and n >= LEAST and 1 < x <= (n - 1) // 2 and k in range(1, 21)


def value_of(k, n, x):
    """The face of x raised 2^k times, with the exponent written out."""
    return face(pow(x, 2 ** (2 ** k), n), n)


def asked_lots(lots):
    """How many lots were asked, and these: a tuple of a, b, c and t for each."""
    told = [len(lots)]
    for a, b, c, t in lots:
        told += [2] + rows_of((a, b, c)) + [t]
    return told


def next_claim(n, a, b, c, t):
    """What a and b become in the round of t."""
    r = (n + a + 3 * b + 5 * c + 7 * t) & 0xffffffff
    return face(pow(a, r, n) * c, n), face(pow(c, r, n) * b, n)


def proof_of(k, n, x):
    """The numbers of the proof, and the lots asked for it."""
    proof, lots = [], []
    a, b = x, value_of(k, n, x)
    for t in range(k, 0, -1):
        proof.append(value_of(t - 1, n, a))
        lots.append((a, b, proof[-1], t))
        a, b = next_claim(n, a, b, proof[-1], t)
    return proof, lots


def shown(k, n, x):
    """What show answers once x is raised 2^k times."""
    proof, lots = proof_of(k, n, x)
    return [k] + rows_of(proof) + asked_lots(lots)


def judged(k, n, x, y, proof):
    """What right answers where nothing of it is refused outright."""
    lots = []
    a, b = x, y
    for c, t in zip(proof, range(k, 0, -1)):
        lots.append((a, b, c, t))
        a, b = next_claim(n, a, b, c, t)
    holds = (a * a - b) % n == 0 or (a * a + b) % n == 0
    return [0 if holds else -13] + asked_lots(lots)
