import copy
import random
import unittest

from piecetold.classes import deed_of
from piecetold.desks import Desk
from piecetold.documents import Document
from piecetold.readers import Reader, splice, spliced
from samples import holds_lists, latest_chain, lists_of, three_chain, THREE_DEED, THREE_INPUT


def marks(text):
    """A list of messages, one for each letter."""
    return [("put", "abcdefghij".index(letter) * 10 ** 30) for letter in text]


def plain_splice(first, second):
    """All lengths are tried; the longest prefix comes first."""
    prefix = max(k for k in range(min(len(first), len(second)) + 1) if first[:k] == second[:k])
    first, second = first[prefix:], second[prefix:]
    suffix = max(k for k in range(min(len(first), len(second)) + 1)
                 if first[len(first) - k:] == second[len(second) - k:])
    return prefix, len(first) - suffix, second[:len(second) - suffix]


class SpliceTest(unittest.TestCase):
    def test_worked_out_by_hand(self):
        for first, second, prefix, removed, inserted in (
            ("", "", 0, 0, ""), ("abc", "abc", 3, 0, ""), ("", "abc", 0, 0, "abc"), ("abc", "", 0, 3, ""),
            ("abc", "abd", 2, 1, "d"), ("abc", "dbc", 0, 1, "d"), ("abc", "adc", 1, 1, "d"), ("abc", "def", 0, 3, "def"),
            ("abc", "ac", 1, 1, ""), ("ac", "abc", 1, 0, "b"),
            # The prefix and the suffix would overlap: the prefix is the longer one.
            ("aa", "aaa", 2, 0, "a"), ("aaa", "aa", 2, 1, ""), ("ab", "abab", 2, 0, "ab"), ("abab", "ab", 2, 2, ""),
            ("aba", "a", 1, 2, ""), ("a", "aba", 1, 0, "ba"), ("abcab", "ab", 2, 3, ""), ("aab", "ab", 1, 1, ""),
            ("abba", "aba", 2, 1, ""), ("abcbd", "abd", 2, 2, ""),
        ):
            with self.subTest((first, second)):
                first, second, change = marks(first), marks(second), (prefix, removed, marks(inserted))
                self.assertEqual(splice(first, second), change)
                self.assertEqual(spliced(first, change), second)
                self.assertIsInstance(splice(first, second), tuple)
                self.assertIsInstance(splice(first, second)[2], list)
                self.assertIsInstance(spliced(first, change), list)

    def test_names_and_integers_count(self):
        self.assertEqual(splice([("put", 1)], [("take", 1)]), (0, 1, [("take", 1)]))
        self.assertEqual(splice([("put", 1)], [("put", 2)]), (0, 1, [("put", 2)]))

    def test_lists_and_tuples_alike(self):
        first, second = marks("abcd"), marks("axcd".replace("x", "j"))
        for shape in (lists_of, tuple):
            given = [shape(first), shape(second)]
            before = copy.deepcopy(given)
            for one in (given[0], first):
                for other in (given[1], second):
                    change = splice(one, other)
                    self.assertEqual(change, (1, 1, marks("j")))
                    self.assertFalse(holds_lists(tuple(change[2])))
            for change in ([1, 1, lists_of(marks("j"))], (1, 1, tuple(marks("j")))):
                copied = copy.deepcopy(change)
                result = spliced(given[0], change)
                self.assertEqual(result, second)
                self.assertFalse(holds_lists(tuple(result)))
                self.assertEqual(change, copied)
            self.assertEqual(given, before)

    def test_what_is_returned_is_new(self):
        first, second = marks("ab"), marks("cd")
        change = splice(first, second)
        change[2].clear()
        self.assertEqual((first, second), (marks("ab"), marks("cd")))
        result = spliced(first, (0, 0, []))
        result.clear()
        self.assertEqual(first, marks("ab"))

    def test_by_chance(self):
        source = random.Random(3)
        for _ in range(2000):
            first = marks(source.choice("abc") for _ in range(source.randrange(7)))
            second = marks(source.choice("abc") for _ in range(source.randrange(7)))
            change = splice(first, second)
            self.assertEqual(change, plain_splice(first, second))
            self.assertEqual(spliced(first, change), second)

    def test_long_lists(self):
        first = [("put", k % 7) for k in range(30000)]
        second = first[:15000] + [("put", 9)] + first[15001:]
        self.assertEqual(splice(first, second), (15000, 1, [("put", 9)]))
        self.assertEqual(spliced(first, (15000, 1, [("put", 9)])), second)


class ReaderTest(unittest.TestCase):
    def tell_all(self, document):
        while document.wanted() is not None:
            document.desk.tell(0, document.wanted(), deed_of(document.desk.chain, document.wanted()))

    def test_the_documents_example(self):
        document = Document(Desk(latest_chain(), 0))
        reader = Reader(document)
        self.assertEqual(reader.changes(), [])
        document.put(0, [("put", 7), ("put", 3)])
        document.put(1, [("put", 8)])
        self.assertEqual(reader.changes(), [])
        document.desk.tell(4, document.wanted(), deed_of(document.desk.chain, document.wanted()))
        self.assertEqual(reader.changes(), [(0, "out", (0, 0, [("low", 3)]))])
        self.assertEqual(reader.changes(), [])
        self.tell_all(document)
        document.change(0, [("put", 7), ("put", 9)])
        self.assertEqual(reader.changes(), [(0, "out", (0, 1, []))])
        self.tell_all(document)
        self.assertEqual(reader.changes(), [(0, "out", (0, 0, [("high", 9), ("low", 8)]))])
        self.assertEqual(reader.changes(), [])

    def test_the_changes_in_between_are_not_told(self):
        document = Document(Desk(latest_chain(), 0))
        document.put(0, [("put", 7), ("put", 3)])
        self.tell_all(document)
        reader = Reader(document)
        document.drop(0)
        document.undo()
        document.cut(0, 1)
        self.assertEqual(reader.changes(), [])
        document.glue(0)
        document.undo()
        self.assertEqual(reader.changes(), [])

    def test_each_channel_of_each_program_in_order(self):
        document = Document(Desk(three_chain(), 0))
        early = Reader(document)
        document.put(0, THREE_INPUT[:3])
        self.tell_all(document)
        late = Reader(document)
        first = [
            (0, "link", (0, 0, [("less", 3), ("more", 5), ("same", 3)])),
            (0, "log", (0, 0, [("seen", 5), ("seen", 3)])),
            (1, "out", (0, 0, [("down", 3), ("up", 5), ("up", 5), ("down", 3)])),
            (2, "end", (0, 0, [("tick", 5)] * 2 + [("tick", 3)] * 2)),
        ]
        self.assertEqual(early.changes(), first)
        self.assertEqual(late.changes(), [])
        document.put(1, THREE_INPUT[3:5])
        self.tell_all(document)
        second = [
            (0, "link", (3, 0, [("same", 9), ("more", 8), ("more", 8), ("less", 3)])),
            (1, "out", (4, 0, [("down", 8), ("down", 3)])),
            (2, "end", (4, 0, [("tick", 3)] * 2)),
        ]
        self.assertEqual(late.changes(), second)
        self.assertEqual(early.changes(), second)
        document.drop(0)
        told = late.changes()
        self.assertEqual([change[:2] for change in told], [(0, "link"), (0, "log"), (1, "out"), (2, "end")])
        self.assertEqual([change[2][2] for change in told], [[]] * 4)

    def test_only_channels_that_differ(self):
        document = Document(Desk(three_chain(), 0))
        document.put(0, THREE_INPUT)
        self.tell_all(document)
        reader = Reader(document)
        document.put(1, [("take", 5)])
        self.tell_all(document)
        self.assertEqual(THREE_DEED[-1][0][0], 0)
        self.assertEqual(reader.changes(), [])

    def test_what_was_returned_may_be_changed(self):
        document = Document(Desk(latest_chain(), 0))
        reader = Reader(document)
        document.put(0, [("put", 7), ("put", 3)])
        self.tell_all(document)
        told = reader.changes()
        told[0][2][2].append(("high", 0))
        told.clear()
        self.assertEqual(reader.changes(), [])
        document.drop(0)
        self.assertEqual(reader.changes(), [(0, "out", (0, 1, []))])

    def test_a_reader_works_with_the_very_document(self):
        document = Document(Desk(latest_chain(), 0))
        reader = Reader(document)
        other = Document(document.desk)
        other.put(0, [("put", 7), ("put", 3)])
        self.tell_all(other)
        self.assertEqual(reader.changes(), [])
        # The other document's deed is known for this one, too.
        document.put(0, [("put", 5), ("put", 4)])
        self.assertEqual(reader.changes(), [(0, "out", (0, 0, [("low", 4)]))])


if __name__ == "__main__":
    unittest.main()
