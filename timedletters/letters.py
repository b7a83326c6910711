"""The calls on one object, read from a list of whole numbers, and their answers."""

from timedletters.residues import bytes_of, number_of, numbers_of
from timedletters.residues import face, is_fit, is_small, lot, pad, power, raised


class UnknownCall(ValueError):
    """The list has a number where a call begins that is no call's."""


class Reader:
    """Goes through the list of calls once, and leaves the list as it is."""

    def __init__(self, calls):
        self.calls = calls
        self.place = 0

    def more(self):
        """Does a call begin here, or is the list at its end?"""
        return self.place < len(self.calls)

    def whole(self):
        """The next whole number."""
        found = self.calls[self.place]
        self.place += 1
        return found

    def row(self):
        """The next row, which has its length before it."""
        length = self.whole()
        start = self.place
        self.place = start + length
        return self.calls[start:self.place]

    def number(self):
        """The number whose bytes are the next row."""
        return number_of(self.row())


class Claim:
    """That b is the face of a raised 2^t times by n; each round lowers t by one."""

    def __init__(self, n, a, b):
        self.n = n
        self.a = a
        self.b = b
        self.asked = []

    def halve(self, c, t):
        """One claim for 2^(t - 1) in place of two: of a and c, and of c and b."""
        r = lot(self.n, self.a, self.b, c, t)
        self.asked.append([2] + bytes_of(self.a) + bytes_of(self.b) + bytes_of(c) + [t])
        self.a = face(power(self.a, r, self.n) * c, self.n)
        self.b = face(power(c, r, self.n) * self.b, self.n)

    def holds_at_last(self):
        """Does the one squaring that is left behind the last round lead from a to b?"""
        return face(self.a * self.a, self.n) == self.b


class Opening:
    """The object: what was begun, how far it is, and how many squarings are left."""

    def __init__(self):
        self.begun = False
        self.k = 0
        self.n = 0
        self.x = 0
        self.reached = 0
        self.left = 0

    def begin(self, k, n, x):
        """x is to be raised 2^k times by n, from here on in place of what was begun."""
        if not is_fit(n, x, k):
            return told([-22], [])
        self.begun = True
        self.k = k
        self.n = n
        self.x = x
        self.reached = x
        self.left = 1 << k
        return told([0], [])

    def work(self, steps):
        """As many of the squarings left as steps says, or all of them if it says more."""
        if not self.begun:
            return [-61]
        done = min(steps, self.left)
        self.reached = raised(self.reached, done, self.n)
        self.left -= done
        return told([self.left], [])

    def value(self):
        """The face of what was reached, once no squaring is left."""
        if not self.begun:
            return [-61]
        if self.left > 0:
            return told([-1], [])
        return told([0] + bytes_of(face(self.reached, self.n)), [])

    def show(self):
        """The proof that the value is right, once no squaring is left."""
        if not self.begun:
            return [-61]
        if self.left > 0:
            return told([-1], [])
        claim = Claim(self.n, self.x, face(self.reached, self.n))
        proof = []
        for t in range(self.k, 0, -1):
            c = face(raised(claim.a, 1 << (t - 1), self.n), self.n)
            proof.extend(bytes_of(c))
            claim.halve(c, t)
        return told([self.k] + proof, claim.asked)


def told(answered, asked):
    """One answer: its numbers, how many things were asked for it, and these."""
    numbers = answered + [len(asked)]
    for thing in asked:
        numbers.extend(thing)
    return numbers


def padded(row, number):
    """The answer 0 and row, each byte xor that of the pad that is asked of number."""
    mixed = [byte ^ mask for byte, mask in zip(row, pad(number))]
    return told([0] + mixed, [[1] + bytes_of(number)])


def seal(k, n, x, m, letter):
    """The letter under the pad that takes 2^k squarings, found by way of m."""
    if m == 0 or not is_fit(n, x, k):
        return told([-22], [])
    # Written out, 2 to the power 2^k has over 2^k bits: each squaring is brought down by m.
    exponent = raised(2, k, m)
    return padded(letter, face(power(x, exponent, n), n))


def right(k, n, x, y, proof):
    """Does proof show that y is the face of x raised 2^k times? It takes k rounds."""
    if not is_fit(n, x, k):
        return told([-22], [])
    middles = numbers_of(proof)
    for number in [y] + middles:
        if not is_small(number, n):
            return told([-13], [])
    claim = Claim(n, x, y)
    for t in range(k, 0, -1):
        claim.halve(middles[k - t], t)
    if claim.holds_at_last():
        return told([0], claim.asked)
    return told([-13], claim.asked)


def answer_of(reader, opening):
    """The answer of the call that begins where the reader is; reads just that call."""
    call = reader.whole()
    if call == 0:
        k = reader.whole()
        n = reader.number()
        x = reader.number()
        m = reader.number()
        return seal(k, n, x, m, reader.row())
    if call == 1:
        k = reader.whole()
        n = reader.number()
        return opening.begin(k, n, reader.number())
    if call == 2:
        return opening.work(reader.whole())
    if call == 3:
        return opening.value()
    if call == 4:
        return opening.show()
    if call == 5:
        k = reader.whole()
        n = reader.number()
        x = reader.number()
        y = reader.number()
        return right(k, n, x, y, reader.row())
    if call == 6:
        y = reader.number()
        return padded(reader.row(), y)
    raise UnknownCall(f"no call has the number {call}")


def answers(calls):
    """For each call on one new object: how many numbers are answered, and these."""
    reader = Reader(calls)
    opening = Opening()
    given = []
    while reader.more():
        answer = answer_of(reader, opening)
        given.append(len(answer))
        given.extend(answer)
    return given
