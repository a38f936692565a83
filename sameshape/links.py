"""Links, over which every node is sent once."""

from sameshape.numbering import Numbering, tabled
from sameshape.packs import packed, parts_of, unpacked_rows
from sameshape.wire import numbers_of, read_pack


class Sender:
    """The sender of a link, which numbers the nodes of all parts that were sent."""

    def __init__(self):
        self._numbering = Numbering()

    @property
    def node_count(self):
        """The number of the distinct nodes of all parts that were sent."""
        return len(self._numbering.entries)

    def send(self, parts):
        """Send some parts and return the packet."""
        pack = packed(tabled(parts), self._numbering)
        self._numbering.put(pack[1])
        return numbers_of(pack)


class Receiver:
    """The receiver of a link, which numbers the nodes of all parts that were received."""

    def __init__(self):
        self._numbering = Numbering()

    @property
    def node_count(self):
        """The number of the distinct nodes of all parts that were received."""
        return len(self._numbering.entries)

    def receive(self, numbers):
        """Receive a packet and return the tuple of the parts."""
        pack = read_pack(numbers)
        rows = unpacked_rows(pack, self._numbering)
        self._numbering.put(pack[1])
        return parts_of(rows)
