"""Packs as rows of integers."""

from sameshape.codes import FAR, code_of
from sameshape.errors import InvalidNumber
from sameshape.packs import MOST_ENTRIES

KINDS = ("sequence", "map", "queue", "intervals")
MOST_ROOTS = 8
LAST_NUMBER = 65534
# The characters of strings in the order of their codes, from the blank on; the second blank stands for code 37, which
# is read nowhere.
CHARACTERS = " !\"#$ &'()*+,-./0123456789:;<=>?@ABCDEFGHIJKLMNOPQRSTUVWXYZ[\\]^_`abcdefghijklmnopqrstuvwxyz{|}~"
FIRST_CODE = 32
LAST_CODE = 126
BARRED_CODE = 37


def entry_numbers(entry):
    """Return the tuple of the numbers of an entry."""
    if entry[0] == "leaf":
        return code_of(entry[1])
    if entry[0] == "run":
        return (5, entry[2], entry[1])
    return (6, len(entry[1])) + entry[1]


def numbers_of(pack):
    """Return the tuple of the integers as which a pack is written."""
    known, entries, roots = pack
    found = [known, len(entries)]
    for entry in entries:
        found.extend(entry_numbers(entry))
    found.append(len(roots))
    for kind, root in roots:
        found.append(KINDS.index(kind) + 1)
        found.append(0 if root is None else root + 1)
    return tuple(found)


class Reader:
    """Integers that are read one after the other; the next one is that at the index `place`."""

    def __init__(self, numbers):
        self.numbers = numbers
        self.place = 0

    def read(self, low, high):
        """Return the next integer, which must be from low up to and including high."""
        if self.place == len(self.numbers):
            raise InvalidNumber(self.place)
        number = self.numbers[self.place]
        if number < low or number > high:
            raise InvalidNumber(self.place)
        self.place += 1
        return number


def read_digits(reader, least):
    """Return the number from `least` up to FAR whose four digits come next."""
    number = 0
    for shift in (48, 32, 16, 0):
        # The digits before this one may already be those of the greatest or of the least number.
        low = max(0, (least >> shift) - 65536 * number)
        high = min(65535, (FAR >> shift) - 65536 * number)
        number = 65536 * number + reader.read(low, high)
    return number


def read_character(reader):
    """Return the character whose code comes next."""
    place = reader.place
    code = reader.read(FIRST_CODE, LAST_CODE)
    if code == BARRED_CODE:
        raise InvalidNumber(place)
    return CHARACTERS[code - FIRST_CODE]


def read_text(reader, least):
    """Return the string whose length, which is from `least` to 20, and codes come next."""
    many = reader.read(least, 20)
    return "".join([read_character(reader) for _ in range(many)])


def scalar_after(reader, word):
    """Return the scalar the first number of whose code was read."""
    if word == 1:
        return read_digits(reader, 0)
    if word == 2:
        return -read_digits(reader, 1)
    return read_text(reader, 0)


def read_scalar(reader):
    """Return the scalar whose code comes next."""
    return scalar_after(reader, reader.read(1, 3))


def read_entry(reader):
    """Return the entry whose numbers come next."""
    word = reader.read(1, 6)
    if word == 4:
        first = read_scalar(reader)
        return ("leaf", (first, read_scalar(reader)))
    if word == 5:
        times = reader.read(2, 65535)
        return ("run", reader.read(0, LAST_NUMBER), times)
    if word == 6:
        many = reader.read(2, 12)
        return ("block", tuple([reader.read(0, LAST_NUMBER) for _ in range(many)]))
    return ("leaf", scalar_after(reader, word))


def read_root(reader):
    """Return the pair of a kind and the number of a root that come next."""
    kind = KINDS[reader.read(1, len(KINDS)) - 1]
    number = reader.read(0, LAST_NUMBER + 1)
    return kind, number - 1 if number > 0 else None


def read_whole(reader, least, most):
    """Return the pack, with at least `least` and at most `most` roots, whose integers come next."""
    known = reader.read(0, LAST_NUMBER)
    many = reader.read(0, MOST_ENTRIES)
    entries = tuple([read_entry(reader) for _ in range(many)])
    many = reader.read(least, most)
    return known, entries, tuple([read_root(reader) for _ in range(many)])


def read_pack(numbers):
    """Return the pack that is written as these integers."""
    reader = Reader(numbers)
    pack = read_whole(reader, 0, MOST_ROOTS)
    if reader.place < len(numbers):
        raise InvalidNumber(reader.place)
    return pack
