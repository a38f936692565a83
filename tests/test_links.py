import unittest

from sameshape.errors import (InvalidContents, InvalidNode, InvalidNumber, InvalidRoot, NotCanonical, PackTooLarge,
                              TooManyElements, UnknownBaseNodes)
from sameshape.links import Receiver, Sender
from sameshape.packs import pack_of
from sameshape.wire import numbers_of
from tests import packs_model
from tests.samples import LARGE, SMALL
from tests.support import RowCase
from tests.test_packs import any_parts

SECOND = (4, 4, 6, 2, 0, 1, 1, 0, 0, 0, 4, 6, 2, 2, 5, 6, 2, 4, 6, 1, 1, 8)
PARTS = (("sequence", (1, 2, 3)),), (("sequence", (1, 2, 3, 4)),), (("map", ((1, 2),)), ("sequence", (3, 4)))


class LinkTest(RowCase):
    def test_the_example(self):
        sender = Sender()
        self.assert_result((0, 4, 1, 0, 0, 0, 1, 1, 0, 0, 0, 2, 1, 0, 0, 0, 3, 6, 3, 0, 1, 2, 1, 1, 4), sender.send,
                           PARTS[0])
        self.assert_result(SECOND, sender.send, PARTS[1])

    def test_a_new_link(self):
        self.assertEqual((Sender().node_count, Receiver().node_count), (0, 0))

    def test_packets_in_order(self):
        sender, receiver = Sender(), Receiver()
        for parts, many in zip(PARTS, (4, 8, 9)):
            packet = sender.send(parts)
            self.assert_result(parts, receiver.receive, packet)
            self.assertEqual((sender.node_count, receiver.node_count), (many, many))

    def test_no_parts_and_parts_without_elements(self):
        sender, receiver = Sender(), Receiver()
        for parts in ((), (("map", ()),), (("sequence", (1,)), ("queue", ())), ()):
            self.assert_result(parts, receiver.receive, sender.send(parts))
        self.assertEqual((sender.node_count, receiver.node_count), (1, 1))

    def test_the_same_parts_again(self):
        sender, receiver = Sender(), Receiver()
        receiver.receive(sender.send(PARTS[0]))
        packet = sender.send(PARTS[0])
        self.assertEqual(packet, (4, 0, 1, 1, 4))
        self.assert_result(PARTS[0], receiver.receive, packet)
        self.assertEqual((sender.node_count, receiver.node_count), (4, 4))

    def test_a_packet_is_the_pack_of_its_parts(self):
        sender, receiver = Sender(), Receiver()
        sent = []
        for seed in range(15):
            parts = any_parts(seed % 9, seed)
            packet = sender.send(parts)
            self.assertEqual(packet, packs_model.written(packs_model.pack(parts, sent)))
            self.assert_result(parts, receiver.receive, packet)
            sent += [contents for _, contents in parts]
            self.assertEqual(sender.node_count, len(packs_model.nodes_of(sent)))
            self.assertEqual(receiver.node_count, sender.node_count)
        self.assertGreater(len(sent), 8)

    def test_15_large_packets(self):
        sender, receiver = Sender(), Receiver()
        for place in range(15):
            parts = (("sequence", tuple(range(2000 * place, 2000 * place + 2000))),)
            self.assertEqual(receiver.receive(sender.send(parts)), parts)
        self.assertGreater(sender.node_count, 55000)
        self.assertEqual(receiver.node_count, sender.node_count)

    def test_all_contents(self):
        sender, receiver = Sender(), Receiver()
        for contents in LARGE.values():
            parts = (("sequence", contents), ("sequence", contents[500:]))
            self.assertEqual(receiver.receive(sender.send(parts)), parts)
        for place in range(6):
            parts = tuple(("sequence", contents) for contents in list(SMALL.values())[place * 4:place * 4 + 4])
            self.assertEqual(receiver.receive(sender.send(parts)), parts)

    def test_links_do_not_touch_each_other(self):
        first, second, receiver = Sender(), Sender(), Receiver()
        receiver.receive(first.send(PARTS[0]))
        self.assertEqual(second.node_count, 0)
        self.assertEqual(second.send(PARTS[1]), numbers_of(pack_of(PARTS[1])))
        self.assertEqual(Receiver().node_count, 0)


class TooLargeTest(RowCase):
    def test_parts_that_are_refused_do_not_count_as_sent(self):
        sender, receiver, other = Sender(), Receiver(), Sender()
        receiver.receive(sender.send(PARTS[0]))
        other.send(PARTS[0])
        large = (("sequence", tuple(range(1000, 3000))), ("sequence", tuple(range(3000, 5000))))
        count = sum(len(pack_of((part,))[1]) for part in large)
        self.assert_refused(PackTooLarge(count), sender.send, large)
        self.assertEqual(sender.node_count, 4)
        packet = sender.send(PARTS[1])
        self.assertEqual(packet, SECOND)
        self.assertEqual(packet, other.send(PARTS[1]))
        self.assert_result(PARTS[1], receiver.receive, packet)

    def test_4000_entries_and_one_more(self):
        sender, receiver = Sender(), Receiver()
        parts = (("sequence", tuple(range(2000))), ("sequence", tuple("abcdefghi")), ("sequence", ("q",)))
        self.assert_refused(PackTooLarge(4001), sender.send, parts + (("sequence", ("x",)),))
        self.assertEqual(receiver.receive(sender.send(parts)), parts)
        self.assertEqual((sender.node_count, receiver.node_count), (4000, 4000))
        more = parts + (("sequence", ("x",)),)
        self.assertEqual(receiver.receive(sender.send(more)), more)


class RefusedTest(RowCase):
    def setUp(self):
        sender = Sender()
        self.packets = [sender.send(parts) for parts in PARTS]
        self.receiver = Receiver()

    def check(self, error, numbers):
        """The packet is refused, and the receiver is as before."""
        before = self.receiver.node_count
        self.assert_refused(error, self.receiver.receive, numbers)
        self.assertEqual(self.receiver.node_count, before)

    def receive(self, place):
        self.assert_result(PARTS[place], self.receiver.receive, self.packets[place])

    def test_a_packet_that_is_lost(self):
        self.check(UnknownBaseNodes(), self.packets[1])
        self.receive(0)
        self.check(UnknownBaseNodes(), self.packets[2])
        self.receive(1)
        self.receive(2)

    def test_a_packet_that_arrives_twice(self):
        for place in range(3):
            self.receive(place)
            self.check(UnknownBaseNodes(), self.packets[place])
        self.assertEqual(self.receiver.node_count, 9)

    def test_a_packet_without_new_nodes_that_arrives_twice(self):
        sender = Sender()
        first, second = sender.send(PARTS[0]), sender.send(PARTS[0])
        self.assert_result(PARTS[0], self.receiver.receive, first)
        for _ in range(3):
            self.assert_result(PARTS[0], self.receiver.receive, second)

    def test_a_packet_that_is_changed_and_then_arrives_as_it_was(self):
        self.receive(0)
        packet = self.packets[1]
        self.check(InvalidNumber(0), ())
        self.check(InvalidNumber(7), packet[:7])
        self.check(InvalidNumber(22), packet + (0,))
        self.check(InvalidNumber(2), packet[:2] + (7,) + packet[3:])
        self.check(UnknownBaseNodes(), (5,) + packet[1:])
        self.check(InvalidNode(0), packet[:4] + (4,) + packet[5:])
        self.check(InvalidRoot(0), packet[:21] + (9,))
        self.check(NotCanonical(), packet[:4] + (1,) + packet[5:])
        self.check(NotCanonical(), packet[:21] + (7,))
        self.check(InvalidContents(0), packet[:20] + (2, 8))
        self.receive(1)
        self.receive(2)

    def test_reading_comes_before_unpacking(self):
        self.receive(0)
        self.check(InvalidNumber(22), (5,) + self.packets[1][1:] + (1,))
        self.check(InvalidNumber(2), (5, 1, 7))

    def test_a_node_that_is_too_large(self):
        self.receive(0)
        self.check(TooManyElements(2001), (4, 1, 5, 667, 3, 1, 1, 5))
        self.check(NotCanonical(), (4, 1, 5, 666, 3, 1, 1, 5))
        self.receive(1)


if __name__ == "__main__":
    unittest.main()
