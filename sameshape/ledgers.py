"""Ledgers, which keep a store and a record from which they can be recovered."""

from sameshape.errors import InvalidNumber, InvalidRecord, LedgerFull, ShapeError, UnknownVersion
from sameshape.kinds import contents_of
from sameshape.numbering import Numbering, tabled
from sameshape.packs import packed, unpacked_rows
from sameshape.stores import Store, combined_part, derived_part
from sameshape.wire import Reader, numbers_of, read_text, read_whole

MOST_NODES = 8000
# The first numbers of the four lines.
CREATED = 1
LET_GO = 2
TAGGED = 3
UNTAGGED = 4


def name_numbers(name):
    """Return the list of the length of a name and the codes of its characters."""
    return [len(name)] + [ord(letter) for letter in name]


class Ledger:
    """A store, all versions that were created in it, the numbers of their nodes, and the record."""

    def __init__(self, *, capacity=1000000):
        self._store = Store(capacity=capacity)
        self._versions = []
        self._numbering = Numbering()
        self._lines = []

    def __len__(self):
        return len(self._versions)

    @property
    def record(self):
        """The tuple of the integers of all lines."""
        return tuple(self._lines)

    @property
    def store(self):
        """The store."""
        return self._store

    def version(self, number):
        """Return the version with a number."""
        if number >= len(self._versions):
            raise UnknownVersion(number)
        return self._versions[number]

    def make(self, kind, rows):
        """Create the version of a kind that is made of some elements, and return its number."""
        return self._create((kind, contents_of(kind, rows)))

    def derive(self, number, operation):
        """Create the version that an operation derives from a version, and return its number."""
        return self._create(derived_part(self.version(number), operation))

    def combine(self, word, number, other):
        """Create the combination of two versions and return its number."""
        version = self.version(number)
        return self._create(combined_part(word, version, self.version(other)))

    def checkout(self, name):
        """Create a version with the kind and the contents of a tag, and return its number."""
        return self._create(self._store.tagged_part(name))

    def let_go(self, number):
        """Let go of a version."""
        self._store.let_go(self.version(number))
        self._lines.extend([LET_GO, number])

    def tag(self, name, number):
        """Give a name to the kind and the contents of a version."""
        self._store.tag(name, self.version(number))
        self._lines.extend([TAGGED, number] + name_numbers(name))

    def untag(self, name):
        """Remove the tag of a name and return True; return False if there is none."""
        if not self._store.untag(name):
            return False
        self._lines.extend([UNTAGGED] + name_numbers(name))
        return True

    def restore(self, pack):
        """Create the version for which this pack would stand in the record."""
        self._add(unpacked_rows(pack, self._numbering), pack)

    def _create(self, part):
        """Create the version with a kind and contents, and return its number."""
        rows = tabled((part,))
        self._add(rows, packed(rows, self._numbering))
        return len(self._versions) - 1

    def _add(self, rows, pack):
        """Create the version of the only row (kind, contents, node table), whose pack is given."""
        plan = self._store.plan(rows)
        if pack[0] + len(pack[1]) > MOST_NODES:
            raise LedgerFull()
        self._versions.extend(self._store.carry_out(plan))
        self._numbering.put(pack[1])
        self._lines.append(CREATED)
        self._lines.extend(numbers_of(pack))


def read_line(reader):
    """Return the next line as its first number and a tuple of what the rest of its numbers says."""
    word = reader.read(CREATED, UNTAGGED)
    if word == CREATED:
        return word, (read_whole(reader, 1, 1),)
    if word == UNTAGGED:
        return word, (read_text(reader, 1),)
    number = reader.read(0, 65535)
    if word == TAGGED:
        return word, (read_text(reader, 1), number)
    return word, (number,)


def line_at(reader):
    """Return the next line as above, or None if there is no more than a proper beginning of one."""
    start = reader.place
    try:
        return read_line(reader)
    except InvalidNumber as wrong:
        if wrong.place < len(reader.numbers):
            raise InvalidRecord(start) from None
        return None


def carry_out(ledger, word, told):
    """Do what a line says and return True, or return False if no tag is removed by it."""
    if word == CREATED:
        ledger.restore(*told)
    elif word == LET_GO:
        ledger.let_go(*told)
    elif word == TAGGED:
        ledger.tag(*told)
    else:
        return ledger.untag(*told)
    return True


def check_line(ledger, line, start):
    """Carry out a line that begins at an index."""
    word, told = line
    try:
        is_done = carry_out(ledger, word, told)
    except ShapeError:
        raise InvalidRecord(start) from None
    if not is_done:
        raise InvalidRecord(start)


def recover(numbers, *, capacity=1000000):
    """Return the pair of the ledger with a record and the number of integers of its lines."""
    ledger = Ledger(capacity=capacity)
    reader = Reader(numbers)
    start = 0
    line = line_at(reader)
    while line is not None:
        check_line(ledger, line, start)
        start = reader.place
        line = line_at(reader)
    return ledger, start
