import random
import unittest

from sameshape.errors import (EmptyInterval, IndexOutOfRange, InvalidRecord, LedgerFull, QueueEmpty, StoreFull,
                              TooManyElements, TooManyTags, TooManyVersions, UnknownOperation, UnknownTag,
                              UnknownVersion, VersionReleased, WrongKind)
from sameshape.ledgers import Ledger, recover
from sameshape.stores import Store, Version
from tests import packs_model
from tests.samples import MIXED, SMALL, picked
from tests.support import StoreCase, counts, state_of

EXAMPLE = (1, 0, 1, 1, 0, 0, 0, 5, 1, 1, 1, 3, 0, 1, 97, 2, 0, 4, 1, 97)
SIX = (1, 2, 3, 4, 5, 6)
PAIRS = ((1, 2), (4, 6))
# The lines of a new ledger that make the sequence 5 and one without elements.
FIVE = EXAMPLE[:11]
NONE = (1, 0, 0, 1, 1, 0)


def seen(ledger):
    """All that can be seen of a ledger, but which objects its versions are."""
    versions = [ledger.version(number) for number in range(len(ledger))]
    told = tuple((version.kind, version.is_live, version.contents if version.is_live else None)
                 for version in versions)
    return (ledger.record, told, state_of(ledger.store)[:-1])


def tags_in(ledger):
    """The names of the tags with their kinds and contents; the ledger goes on for this."""
    found = []
    for name in ledger.store.tag_names:
        number = ledger.checkout(name)
        version = ledger.version(number)
        found.append((name, version.kind, version.contents))
        ledger.let_go(number)
    return tuple(found)


def line_of(contents, bases):
    """The line of a sequence."""
    return (1,) + packs_model.written(packs_model.pack((("sequence", contents),), bases))


class LedgerCase(StoreCase):
    def assert_refuses(self, ledger, error, function, *given):
        """The function raises such an error and appends and changes nothing."""
        before = (seen(ledger), state_of(ledger.store))
        self.assert_raises(error, function, *given)
        self.assertEqual((seen(ledger), state_of(ledger.store)), before)

    def check_recovered(self, ledger, capacity=1000000):
        """The ledger is recovered from its record as it is."""
        other, used = recover(ledger.record, capacity=capacity)
        self.assertEqual(used, len(ledger.record))
        self.assertEqual(seen(other), seen(ledger))
        return other


class LineTest(LedgerCase):
    def test_the_example(self):
        ledger = Ledger()
        self.assert_result(0, ledger.make, "sequence", (5,))
        self.assertIsNone(ledger.tag("a", 0))
        self.assertIsNone(ledger.let_go(0))
        self.assertIs(ledger.untag("a"), True)
        self.assert_rows(ledger.record)
        self.assertEqual(ledger.record, EXAMPLE)

    def test_a_new_ledger(self):
        ledger = Ledger()
        self.assertEqual((ledger.record, len(ledger)), ((), 0))
        self.assertIs(type(ledger.store), Store)
        self.assertEqual(state_of(ledger.store), state_of(Store()))
        self.assertEqual(Ledger(capacity=7).store.capacity, 7)

    def test_each_line(self):
        ledger = Ledger()
        ledger.make("sequence", (1, 2, 3))
        record = (1, 0, 4, 1, 0, 0, 0, 1, 1, 0, 0, 0, 2, 1, 0, 0, 0, 3, 6, 3, 0, 1, 2, 1, 1, 4)
        self.assertEqual(ledger.record, record)
        self.assert_result(1, ledger.derive, 0, ("splice", 3, 0, (4,)))
        record += (1, 4, 4, 6, 2, 0, 1, 1, 0, 0, 0, 4, 6, 2, 2, 5, 6, 2, 4, 6, 1, 1, 8)
        self.assertEqual(ledger.record, record)
        ledger.tag("b c", 1)
        record += (3, 1, 3, 98, 32, 99)
        self.assertEqual(ledger.record, record)
        self.assert_result(2, ledger.checkout, "b c")
        record += (1, 8, 0, 1, 1, 8)
        self.assertEqual(ledger.record, record)
        ledger.let_go(1)
        record += (2, 1)
        self.assertEqual(ledger.record, record)
        self.assertIs(ledger.untag("b c"), True)
        record += (4, 3, 98, 32, 99)
        self.assertEqual(ledger.record, record)
        self.assert_result(3, ledger.make, "map", ())
        record += (1, 8, 0, 1, 2, 0)
        self.assertEqual(ledger.record, record)
        self.check_recovered(ledger)

    def test_nodes_of_versions_that_were_let_go(self):
        ledger = Ledger()
        ledger.make("sequence", (1, 2, 3))
        ledger.let_go(0)
        self.assertEqual(counts(ledger.store), (0, 4, 4))
        ledger.make("sequence", (1, 2, 3))
        self.assertEqual(ledger.record[-8:], (2, 0, 1, 4, 0, 1, 1, 4))
        self.assertEqual(counts(ledger.store), (4, 8, 4))
        self.check_recovered(ledger)

    def test_each_creating_call(self):
        ledger = Ledger()
        self.assert_result(0, ledger.make, "intervals", ((3, 5), (1, 3)))
        self.assert_part(ledger.version(0), "intervals", ((1, 5),))
        self.assert_result(1, ledger.derive, 0, ("shift", 3))
        self.assert_part(ledger.version(1), "intervals", ((4, 8),))
        self.assert_result(2, ledger.combine, "others", 0, 1)
        self.assert_part(ledger.version(2), "intervals", ((1, 4),))
        ledger.tag("x", 2)
        self.assert_result(3, ledger.checkout, "x")
        self.assert_part(ledger.version(3), "intervals", ((1, 4),))
        self.assert_result(4, ledger.derive, 3, ("as sequence",))
        self.assert_part(ledger.version(4), "sequence", ((1, 4),))
        self.assert_result(5, ledger.combine, "join", 4, 4)
        self.assert_part(ledger.version(5), "sequence", ((1, 4), (1, 4)))
        self.assertEqual([id(version) for version in ledger.store], [id(ledger.version(k)) for k in range(6)])
        self.check_recovered(ledger)

    def test_more_than_eight_versions(self):
        ledger = Ledger()
        record = ()
        bases = []
        for place, contents in enumerate(SMALL.values()):
            self.assertEqual(ledger.make("sequence", contents), place)
            record += line_of(contents, bases)
            bases.append(contents)
            if place % 3 == 1:
                ledger.let_go(place - 1)
                record += (2, place - 1)
            self.assertEqual(ledger.record, record)
        self.assertGreater(len(ledger), 20)
        self.check_recovered(ledger)

    def test_names(self):
        ledger = Ledger()
        ledger.make("sequence", ())
        for name in (" ", "~" * 20, "a b", "0"):
            before = ledger.record
            ledger.tag(name, 0)
            line = (len(name),) + tuple(ord(letter) for letter in name)
            self.assertEqual(ledger.record, before + (3, 0) + line)
            ledger.untag(name)
            self.assertEqual(ledger.record, before + (3, 0) + line + (4,) + line)
        self.check_recovered(ledger)

    def test_replacing_a_tag(self):
        ledger = Ledger()
        ledger.make("sequence", (1,))
        ledger.make("map", ((1, 2),))
        before = ledger.record
        for name, number in (("a", 0), ("b", 0), ("a", 1), ("a", 1)):
            ledger.tag(name, number)
        self.assertEqual(ledger.record, before + (3, 0, 1, 97, 3, 0, 1, 98, 3, 1, 1, 97, 3, 1, 1, 97))
        self.assertEqual(tags_in(ledger), (("a", "map", ((1, 2),)), ("b", "sequence", (1,))))
        self.check_recovered(ledger)

    def test_calls_that_append_nothing(self):
        ledger = Ledger()
        ledger.make("sequence", (5,))
        ledger.tag("a", 0)
        before = seen(ledger)
        self.assertIs(ledger.untag("b"), False)
        ledger.version(0)
        self.assertEqual((len(ledger), ledger.store.cost_of(SIX)), (1, 9))
        self.assertEqual(seen(ledger), before)

    def test_60000_versions(self):
        ledger = Ledger()
        for place in range(60000):
            number = ledger.make("sequence", (place % 100,))
            self.assertEqual(number, place)
            ledger.let_go(number)
        self.assertEqual((len(ledger), len(ledger.store)), (60000, 0))
        self.assertEqual(ledger.record[-8:], (1, 100, 0, 1, 1, 100, 2, 59999))
        self.assertIs(ledger.version(31).is_live, False)
        numbers = ledger.record[:400000]
        other, used = recover(numbers)
        # 100 lines with an entry each, and each line of a version is followed by the one that lets go of it.
        self.assertEqual((used, other.record), (399996, numbers[:399996]))


class VersionsTest(LedgerCase):
    def test_len_and_versions(self):
        ledger = Ledger()
        for place in range(5):
            ledger.make("sequence", (place,))
            self.assertEqual(len(ledger), place + 1)
        ledger.let_go(3)
        self.assertEqual((len(ledger), len(ledger.store)), (5, 4))
        for place in range(5):
            version = ledger.version(place)
            self.assertIs(type(version), Version)
            self.assertIs(version, ledger.version(place))
            self.assertIs(version.is_live, place != 3)
        self.assertEqual(ledger.version(4).contents, (4,))
        self.assert_result(5, ledger.make, "sequence", (9,))

    def test_a_version_that_was_let_go(self):
        ledger = Ledger()
        ledger.make("queue", PAIRS)
        ledger.let_go(0)
        version = ledger.version(0)
        self.assertEqual((version.kind, version.is_live), ("queue", False))
        self.assert_refuses(ledger, VersionReleased(), ledger.let_go, 0)
        self.assert_refuses(ledger, VersionReleased(), ledger.tag, "a", 0)
        self.assert_refuses(ledger, VersionReleased(), ledger.derive, 0, ("pop",))
        ledger.make("queue", PAIRS)
        self.assert_refuses(ledger, VersionReleased(), ledger.combine, "join", 0, 1)
        self.assert_refuses(ledger, VersionReleased(), ledger.combine, "join", 1, 0)

    def test_numbers_that_do_not_exist(self):
        ledger = Ledger()
        self.assert_refuses(ledger, UnknownVersion(0), ledger.version, 0)
        self.assert_refuses(ledger, UnknownVersion(0), ledger.let_go, 0)
        ledger.make("map", PAIRS)
        for number in (1, 2, 1000000):
            self.assert_refuses(ledger, UnknownVersion(number), ledger.version, number)
            self.assert_refuses(ledger, UnknownVersion(number), ledger.let_go, number)
            self.assert_refuses(ledger, UnknownVersion(number), ledger.tag, "a", number)
            self.assert_refuses(ledger, UnknownVersion(number), ledger.derive, number, ("drop", 1))
            self.assert_refuses(ledger, UnknownVersion(number), ledger.combine, "join", number, 0)
            self.assert_refuses(ledger, UnknownVersion(number), ledger.combine, "join", 0, number)
        self.assert_refuses(ledger, UnknownVersion(9), ledger.combine, "join", 9, 8)

    def test_unknown_versions_come_first(self):
        ledger = Ledger()
        ledger.make("map", PAIRS)
        ledger.let_go(0)
        self.assert_refuses(ledger, UnknownVersion(1), ledger.combine, "x", 0, 1)
        self.assert_refuses(ledger, UnknownVersion(1), ledger.combine, "x", 1, 0)
        self.assert_refuses(ledger, UnknownVersion(1), ledger.derive, 1, ("x",))
        ledger.make("map", PAIRS)
        for place in range(20):
            ledger.tag(str(place), 1)
        self.assert_refuses(ledger, UnknownVersion(2), ledger.tag, "x", 2)
        self.assert_refuses(ledger, TooManyTags(), ledger.tag, "x", 1)
        while len(ledger.store) < 40:
            ledger.make("sequence", ())
        self.assert_refuses(ledger, UnknownVersion(77), ledger.derive, 77, ("drop", 1))
        self.assert_refuses(ledger, TooManyVersions(), ledger.derive, 1, ("drop", 1))


class RefusedTest(LedgerCase):
    def test_the_errors_of_the_calls(self):
        ledger = Ledger()
        ledger.make("sequence", SIX)
        ledger.make("queue", ())
        refuses = self.assert_refuses
        refuses(ledger, EmptyInterval(), ledger.make, "intervals", ((2, 2),))
        refuses(ledger, TooManyElements(2001), ledger.make, "sequence", (7,) * 2001)
        refuses(ledger, IndexOutOfRange(7), ledger.derive, 0, ("slice", 0, 7))
        refuses(ledger, QueueEmpty(), ledger.derive, 1, ("pop",))
        refuses(ledger, UnknownOperation(), ledger.derive, 0, ("pop",))
        refuses(ledger, UnknownOperation(), ledger.combine, "common", 0, 0)
        refuses(ledger, WrongKind(), ledger.combine, "x", 0, 1)
        refuses(ledger, UnknownTag("a"), ledger.checkout, "a")
        refuses(ledger, TooManyElements(2004), ledger.derive, 0, ("repeat", 334))

    def test_too_many_versions_and_tags(self):
        ledger = Ledger()
        for _ in range(40):
            ledger.make("sequence", ())
        for name in range(20):
            ledger.tag(str(name), name)
        self.assert_refuses(ledger, TooManyVersions(), ledger.make, "sequence", ())
        self.assert_refuses(ledger, TooManyVersions(), ledger.checkout, "3")
        self.assert_refuses(ledger, TooManyTags(), ledger.tag, "20", 3)
        ledger.let_go(7)
        ledger.checkout("7")
        ledger.untag("7")
        ledger.tag("20", 3)
        self.check_recovered(ledger)

    def test_the_capacity(self):
        ledger = Ledger(capacity=10)
        ledger.make("sequence", SIX)
        self.assert_refuses(ledger, StoreFull(), ledger.make, "sequence", (7,))
        self.assert_refuses(ledger, StoreFull(), ledger.derive, 0, ("repeat", 2))
        ledger.let_go(0)
        ledger.make("sequence", (7,))
        self.check_recovered(ledger, capacity=10)


class FullTest(LedgerCase):
    def full(self, many, capacity=1000000):
        """A ledger with so many nodes, whose versions were let go of but the last one."""
        ledger = Ledger(capacity=capacity)
        for place in range(many):
            ledger.make("sequence", (place,))
            if place > 0:
                ledger.let_go(place - 1)
        return ledger

    def test_exactly_8000_nodes_and_one_more(self):
        ledger = Ledger()
        for start in (0, 2000):
            ledger.make("sequence", tuple(range(start, start + 2000)))
        many = ledger.version(0).node_count
        ledger.let_go(0)
        while ledger.store.created_count < 7999:
            ledger.make("sequence", (-len(ledger),))
        self.assert_refuses(ledger, LedgerFull(), ledger.make, "sequence", (1, "x"))
        ledger.make("sequence", ("x",))
        self.assert_refuses(ledger, LedgerFull(), ledger.make, "sequence", ("y",))
        self.assert_refuses(ledger, LedgerFull(), ledger.derive, 1, ("splice", 9, 1, ()))
        # What adds no node to those of all versions is possible, also where nodes are created again.
        ledger.make("sequence", tuple(range(2000)))
        self.assertEqual(ledger.record[-6:], (1, 8000, 0, 1, 1, many))
        self.assertGreater(ledger.store.created_count, 8000)
        ledger.make("map", ())
        self.check_recovered(ledger)

    def test_versions_that_were_let_go(self):
        ledger = self.full(8000)
        self.assertEqual((len(ledger.store), ledger.store.node_count), (1, 1))
        self.assert_refuses(ledger, LedgerFull(), ledger.make, "sequence", ("x",))
        ledger.make("sequence", (17,))
        self.assertEqual(ledger.record[-6:], (1, 8000, 0, 1, 1, 18))
        self.check_recovered(ledger)

    def test_each_creating_call(self):
        ledger = self.full(7998)
        ledger.make("map", PAIRS[:1])
        ledger.make("map", PAIRS[1:])
        last = len(ledger) - 1
        self.assert_refuses(ledger, LedgerFull(), ledger.make, "map", PAIRS)
        self.assert_refuses(ledger, LedgerFull(), ledger.combine, "join", last, last - 1)
        self.assert_refuses(ledger, LedgerFull(), ledger.derive, last, ("put", 1, 2))
        ledger.tag("a", last)
        ledger.checkout("a")
        ledger.derive(last, ("as sequence",))

    def test_behind_all_other_errors(self):
        ledger = self.full(8000, capacity=3)
        last = len(ledger) - 1
        refuses = self.assert_refuses
        refuses(ledger, UnknownVersion(8000), ledger.derive, 8000, ("repeat", 2))
        refuses(ledger, VersionReleased(), ledger.derive, 0, ("repeat", 2))
        refuses(ledger, UnknownOperation(), ledger.derive, last, ("x",))
        refuses(ledger, TooManyElements(2001), ledger.make, "sequence", tuple(range(2001)))
        refuses(ledger, StoreFull(), ledger.make, "sequence", ("x", "y"))
        refuses(ledger, LedgerFull(), ledger.make, "sequence", ("x", "x"))
        while len(ledger.store) < 40:
            ledger.make("sequence", ())
        refuses(ledger, TooManyVersions(), ledger.make, "sequence", ("x",))


class RecoverTest(LedgerCase):
    def check_line(self, error_at, numbers, **named):
        self.assert_refused(InvalidRecord(error_at), recover, numbers, **named)

    def check_left_out(self, whole, beginning):
        """A beginning of a line behind whole lines is left out."""
        ledger, used = recover(whole + beginning)
        self.assertEqual((used, ledger.record), (len(whole), whole))

    def test_the_example(self):
        other, used = recover((1, 0, 1, 1, 0, 0, 0, 5, 1, 1, 1, 3, 0, 1))
        self.assertIs(type(other), Ledger)
        self.assertEqual((used, len(other), other.store.tag_names), (11, 1, ()))
        self.assert_part(other.version(0), "sequence", (5,))
        other, used = recover(EXAMPLE[:15])
        self.assertEqual((used, other.store.tag_names), (15, ("a",)))
        self.assert_part(other.version(0), "sequence", (5,))

    def test_no_integers(self):
        for capacity in (1, 1000000):
            ledger, used = recover((), capacity=capacity)
            self.assertEqual((used, len(ledger), ledger.record, ledger.store.capacity), (0, 0, (), capacity))

    def test_each_beginning_of_the_example(self):
        whole = [0, 11, 15, 17, 20]
        for place in range(21):
            ledger, used = recover(EXAMPLE[:place])
            self.assertEqual(used, max(end for end in whole if end <= place))
            self.assertEqual(ledger.record, EXAMPLE[:used])
            self.assertEqual(len(ledger), 1 if used > 0 else 0)
            self.assertEqual(len(ledger.store), 1 if used in (11, 15) else 0)
            self.assertEqual(ledger.store.tag_names, ("a",) if used in (15, 17) else ())

    def change(self, source, ledger, tags):
        """Some call of a ledger; `tags` has what its tags are expected to be."""
        live = [number for number in range(len(ledger)) if ledger.version(number).is_live]
        word = source.choice(("make", "make", "derive", "join", "let go", "tag", "untag", "checkout"))
        name = source.choice(("a", "b c", "~"))
        if word == "make" or not live:
            kind, contents = source.choice((("sequence", picked(source.randint(0, 6), MIXED, source.random())),
                                            ("map", PAIRS), ("queue", ()), ("intervals", PAIRS[:1])))
            ledger.make(kind, contents)
        elif word == "derive":
            ledger.derive(source.choice(live), ("as sequence",))
        elif word == "join":
            number = source.choice(live)
            ledger.combine("join", number, number)
        elif word == "let go":
            ledger.let_go(source.choice(live))
        elif word == "tag":
            version = source.choice(live)
            ledger.tag(name, version)
            tags[name] = (ledger.version(version).kind, ledger.version(version).contents)
        elif word == "untag":
            self.assertIs(ledger.untag(name), tags.pop(name, None) is not None)
        elif name in tags:
            ledger.checkout(name)

    def test_each_beginning_of_any_record(self):
        for seed in range(8):
            source = random.Random(seed)
            ledger, tags = Ledger(), {}
            states = {0: (seen(ledger), ())}
            for _ in range(18):
                self.change(source, ledger, tags)
                states[len(ledger.record)] = (seen(ledger), tuple((name,) + tags[name] for name in tags))
            record = ledger.record
            for place in range(len(record) + 1):
                other, used = recover(record[:place])
                self.assertEqual(used, max(end for end in states if end <= place))
                self.assertEqual(seen(other), states[used][0])
                self.assertEqual(tags_in(other), states[used][1])

    def test_a_recovered_ledger_goes_on_as_the_first_one(self):
        for seed in range(8):
            ledger, tags = Ledger(), {}
            source = random.Random(seed)
            for _ in range(12):
                self.change(source, ledger, tags)
            other = self.check_recovered(ledger)
            again = dict(tags)
            for step in range(12):
                self.change(random.Random(100 * seed + step), ledger, tags)
                self.change(random.Random(100 * seed + step), other, again)
                self.assertEqual(seen(other), seen(ledger))
            self.assertEqual(tags_in(other), tags_in(ledger))

    def test_numbers_that_begin_no_line(self):
        for word in (0, 5, 6, 65535):
            self.check_line(0, (word,))
            self.check_line(11, FIVE + (word,))
            self.check_line(20, EXAMPLE + (word, 0, 0))

    def test_beginnings_in_the_form_alone(self):
        for beginning in ((1,), (1, 65534), (1, 9, 4000), (1, 0, 1), (1, 0, 1, 4, 3), (1, 0, 1, 6, 12, 65534),
                          (1, 0, 2, 1, 0, 0, 0, 7), (1, 9, 0), (1, 9, 0, 1), (1, 9, 0, 1, 4),
                          (1, 0, 1, 5, 65535, 65534, 1, 2), (2,), (3,), (3, 65535), (3, 65535, 20), (3, 9, 1),
                          (3, 9, 2, 126), (4,), (4, 20), (4, 2, 32)):
            self.check_left_out((), beginning)
            self.check_left_out(FIVE, beginning)

    def test_lines_of_other_forms(self):
        for line in ((1, 65535), (1, 0, 4001), (1, 0, 1, 0), (1, 0, 1, 7), (1, 0, 1, 1, 4), (1, 0, 1, 2, 0, 0, 0, 0),
                     (1, 0, 1, 3, 21), (1, 0, 1, 3, 1, 37), (1, 0, 1, 4, 4), (1, 0, 1, 5, 1), (1, 0, 1, 5, 2, 65535),
                     (1, 0, 1, 6, 1), (1, 0, 1, 6, 13), (1, 0, 0, 0), (1, 0, 0, 2), (1, 0, 0, 8), (1, 0, 0, 1, 0),
                     (1, 0, 0, 1, 5), (3, 0, 0), (3, 0, 21), (3, 0, 1, 31), (3, 0, 1, 37), (3, 0, 1, 127),
                     (3, 0, 2, 97, 37), (4, 0), (4, 21), (4, 1, 31), (4, 1, 37), (4, 1, 127), (4, 3, 97, 1000)):
            for more in ((), (1,), (0, 0, 0)):
                self.check_line(0, line + more)
                self.check_line(11, FIVE + line + more)
            self.check_left_out(FIVE, line[:-1])

    def test_two_roots(self):
        self.check_line(0, (1, 0, 0, 2, 1, 0, 1, 0))
        self.check_line(0, (1, 0, 0, 0))

    def test_letting_go_of_versions_that_are_not_live(self):
        self.check_line(0, (2, 0))
        self.check_line(11, FIVE + (2, 1))
        self.check_line(11, FIVE + (2, 65535))
        self.check_line(13, FIVE + (2, 0, 2, 0))
        self.check_line(13, FIVE + (2, 0, 2, 0, 5))

    def test_tagging_versions_that_are_not_live(self):
        self.check_line(0, (3, 0, 1, 97))
        self.check_line(11, FIVE + (3, 1, 1, 97))
        self.check_line(13, FIVE + (2, 0, 3, 0, 1, 97))
        self.check_left_out(FIVE + (2, 0), (3, 0, 1))

    def test_removing_tags_that_do_not_exist(self):
        self.check_line(0, (4, 1, 97))
        self.check_line(15, FIVE + (3, 0, 1, 97, 4, 1, 98))
        self.check_line(15, FIVE + (3, 0, 1, 97, 4, 2, 97, 97))
        self.check_line(20, EXAMPLE + (4, 1, 97))

    def test_packs_that_are_not_the_very_pack(self):
        base = line_of((1, 2, 3), [])
        four = line_of((1, 2, 3, 4), [(1, 2, 3)])
        self.assertEqual(recover(base + four)[1], len(base + four))
        for line in (line_of((1, 2, 3, 4), []), line_of((1, 2, 3), []), line_of((7,), [(8,)]),
                     (1, 4, 1, 6, 2, 0, 0, 1, 1, 5), (1, 4, 0, 1, 1, 5), (1, 4, 0, 1, 1, 65535),
                     (1, 4, 1, 5, 2, 4, 1, 1, 5), (1, 4, 1, 5, 2001, 0, 1, 1, 5), (1, 4, 1, 5, 65535, 3, 1, 1, 5),
                     (1, 4, 0, 1, 2, 1), (1, 4, 0, 1, 3, 4), (1, 4, 1, 1, 0, 0, 0, 1, 1, 1, 5),
                     (1, 4, 1, 1, 0, 0, 0, 9, 1, 1, 4), (1, 4, 1, 1, 0, 0, 0, 9, 1, 1, 0), (1, 3, 0, 1, 1, 0)):
            self.check_line(len(base), base + line)
            self.check_line(len(base), base + line + four)
            self.check_left_out(base, line[:-1])
        # All versions that were created are bases, whether they are live or not.
        gone = base + (2, 0)
        self.assertEqual(recover(gone + four)[1], len(gone + four))
        self.check_line(len(gone), gone + base)

    def test_contents_that_are_not_valid(self):
        self.check_line(0, (1, 0, 1) + FIVE[3:9] + (2, 1))
        self.check_line(0, (1, 0, 1, 4, 1, 0, 0, 0, 2, 1, 0, 0, 0, 2, 1, 4, 1))
        self.assertEqual(recover((1, 0, 1, 4, 1, 0, 0, 0, 2, 1, 0, 0, 0, 2, 1, 2, 1))[1], 17)

    def test_too_many_live_versions(self):
        ledger, used = recover(NONE * 40)
        self.assertEqual((used, len(ledger.store)), (240, 40))
        self.check_line(240, NONE * 41)
        self.assertEqual(recover(NONE * 40 + (2, 3) + NONE)[1], 248)
        self.check_line(248, NONE * 40 + (2, 3) + NONE * 2)
        self.check_left_out(NONE * 40, NONE[:5])

    def test_too_many_tags(self):
        tags = [(3, 0, 1, 97 + place) for place in range(21)]
        whole = NONE + tuple(number for line in tags[:20] for number in line)
        ledger, used = recover(whole)
        self.assertEqual((used, len(ledger.store.tag_names)), (86, 20))
        self.check_line(86, whole + tags[20])
        self.assertEqual(recover(whole + tags[7])[1], 90)
        self.assertEqual(recover(whole + (4, 1, 97) + tags[20])[1], 93)

    def test_the_capacity(self):
        whole = line_of(SIX, [])
        more = line_of((7,), [SIX])
        self.assertEqual(recover(whole + more, capacity=11)[1], len(whole + more))
        self.check_line(len(whole), whole + more, capacity=10)
        self.check_line(0, whole + more, capacity=9)
        self.assertEqual(recover(whole + (2, 0) + more, capacity=10)[1], len(whole + more) + 2)
        ledger, _ = recover(whole, capacity=10)
        self.assertEqual(ledger.store.capacity, 10)
        self.assert_refuses(ledger, StoreFull(), ledger.make, "sequence", (7,))

    def test_the_8000_nodes(self):
        ledger = Ledger()
        for place in range(8000):
            ledger.make("sequence", (place,))
            ledger.let_go(place)
        whole = ledger.record
        other, used = recover(whole)
        self.assertEqual((used, other.record), (len(whole), whole))
        self.assert_refuses(other, LedgerFull(), other.make, "sequence", ("x",))
        self.check_line(len(whole), whole + (1, 8000, 1, 3, 1, 120, 1, 1, 8001))
        self.check_left_out(whole, (1, 8000, 1, 3, 1, 120, 1, 1))
        self.assertEqual(recover(whole + (1, 8000, 0, 1, 1, 8000))[1], len(whole) + 6)


if __name__ == "__main__":
    unittest.main()
