"""Numbers of 64 bytes, and what is reckoned with them by n."""


def number_of(row):
    """The number whose bytes stand in row, the high byte first."""
    number = 0
    for byte in row:
        number = number * 256 + byte
    return number


def numbers_of(row):
    """The numbers of 64 bytes each that stand in row, one behind another."""
    return [number_of(row[start:start + 64]) for start in range(0, len(row), 64)]


def bytes_of(number):
    """The 64 bytes of number, the high byte first."""
    return [(number >> shift) & 255 for shift in range(504, -1, -8)]


def is_small(number, n):
    """Is number from 1 to (n - 1) / 2?"""
    return 1 <= number <= (n - 1) // 2


def is_fit(n, x, k):
    """Is n odd and at least 2^504, x small by n and not 1, and k from 1 to 20?"""
    if n % 2 == 0 or n.bit_length() < 505:
        return False
    if x == 1 or not is_small(x, n):
        return False
    return 1 <= k <= 20


def face(number, n):
    """The small number that is alike number by the odd n; 0 for a multiple of n."""
    rest = number % n
    return min(rest, n - rest)


def raised(number, times, n):
    """number squared so many times, one after another, by n."""
    reached = number % n
    for turn in range(times):
        reached = reached * reached % n
    return reached


def power(number, exponent, n):
    """What number to the power exponent leaves by n."""
    reached = 1 % n
    square = number % n
    rest = exponent
    while rest > 0:
        if rest % 2 == 1:
            reached = reached * square % n
        square = square * square % n
        rest = rest // 2
    return reached


def pad(number):
    """The 32 bytes that are made of number's first and last 32 bytes together."""
    row = bytes_of(number)
    return [(row[i] + row[32 + i]) % 256 for i in range(32)]


def lot(n, a, b, c, t):
    """The number below 2^32 that decides how a round of a proof is brought together."""
    return (n + a + 3 * b + 5 * c + 7 * t) % 2 ** 32
