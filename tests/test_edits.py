import copy
import unittest

from piecetold.desks import Desk
from piecetold.documents import Document
from piecetold.errors import InvalidInput, NoSuchPiece, NoSuchPlace, NothingToRedo, NothingToUndo, TooMuch
from samples import holds_lists, latest_chain, lists_of, shown, three_chain

GREAT = 10 ** 5000

WRONG_NUMBERS = (-1, -2, 3, 4, 30, GREAT, -GREAT, True, False, None, "", "0", "put", (), [0], (0,))
WRONG_INPUTS = ([("take", 1)], [("put", 1), ("", 2)], [("put", 1)] * 41, [("put", True)], [("put", None)], [("put",)],
                [("put", 1, 1)], [(1, "put")], ["put"], [None], [True], [5], None, True, False, 0, GREAT, "", "put")


def ones(*integers):
    return [("put", integer) for integer in integers]


def three_pieces():
    """A document with the pieces 0, 1 and 2."""
    document = Document(Desk(latest_chain(), 0))
    for place, messages in enumerate([ones(1, 2, 3), ones(4), []]):
        document.put(place, messages)
    return document


def full_document():
    """A document with 30 pieces."""
    document = Document(Desk(latest_chain(), 0))
    for place in range(30):
        document.put(place, ones(place, place))
    return document


def numbers_of(document):
    return [number for number, _ in document.pieces()]


def whole(document):
    return [message for _, messages in document.pieces() for message in messages]


def history_of(document):
    """The pieces, what undo and redo would bring, and the number that the next piece would get, in each state."""
    found = []
    for name in ("undo", "redo"):
        other = copy.deepcopy(document)
        row = []
        try:
            while True:
                row.append((other.pieces(), next_number(other)))
                getattr(other, name)()
        except (NothingToUndo, NothingToRedo):
            found.append(row)
    return found


def next_number(document):
    other = copy.deepcopy(document)
    if len(other.pieces()) == 30:
        other.drop(other.pieces()[0][0])
    return other.put(0, [])


class EditTest(unittest.TestCase):
    def refuse(self, document, error, name, *arguments):
        """The edit is refused, and changes nothing."""
        with self.subTest(name + shown(arguments)):
            before = history_of(document)
            for form in (arguments, lists_of(arguments)):
                with self.assertRaises(error):
                    getattr(document, name)(*form)
                self.assertEqual(history_of(document), before)


class PutTest(EditTest):
    def test_places(self):
        document = Document(Desk(latest_chain(), 0))
        self.assertEqual(document.pieces(), [])
        for number, place in enumerate([0, 0, 2, 1, 4, 0]):
            self.assertEqual(document.put(place, ones(number)), number)
        self.assertEqual(document.pieces(), [(number, ones(number)) for number in (5, 1, 3, 0, 2, 4)])

    def test_wrong_places_come_first(self):
        for messages in (ones(1), [], [("take", 1)], None, [("put", 1)] * 41):
            self.refuse(Document(Desk(latest_chain(), 0)), NoSuchPlace, "put", 1, messages)
            for place in (-1, 4, 5, GREAT, -GREAT, True, False, None, "", "1", (), [1], (1,)):
                self.refuse(three_pieces(), NoSuchPlace, "put", place, messages)
        self.refuse(full_document(), NoSuchPlace, "put", 31, None)

    def test_wrong_inputs_come_second(self):
        for messages in WRONG_INPUTS:
            self.refuse(three_pieces(), InvalidInput, "put", 3, messages)
        self.refuse(full_document(), InvalidInput, "put", 30, [("take", 1)])
        self.refuse(full_document(), InvalidInput, "put", 0, [("put", 1)] * 41)

    def test_lengths_of_inputs(self):
        document = Document(Desk(latest_chain(), 0))
        for at, many in enumerate([0, 1, 39, 40]):
            document.put(at, ones(*range(many)))
        self.assertEqual([len(messages) for _, messages in document.pieces()], [0, 1, 39, 40])
        self.refuse(document, InvalidInput, "put", 0, ones(*range(41)))

    def test_thirty_pieces(self):
        document = full_document()
        self.assertEqual(numbers_of(document), list(range(30)))
        for place in (0, 15, 30):
            for messages in ([], ones(1)):
                self.refuse(document, TooMuch, "put", place, messages)
        document.drop(7)
        self.assertEqual(document.put(0, []), 30)

    def test_lists_become_tuples_and_are_copied(self):
        document = Document(Desk(three_chain(), 0))
        messages = [["put", GREAT], ["take", -GREAT]]
        document.put(0, messages)
        self.assertEqual(messages, [["put", GREAT], ["take", -GREAT]])
        messages[0][1] = 5
        messages.pop()
        self.assertEqual(document.pieces(), [(0, [("put", GREAT), ("take", -GREAT)])])
        document.change(0, (["put", 1],))
        self.assertEqual(document.pieces(), [(0, [("put", 1)])])
        self.assertIsInstance(document.pieces()[0][1], list)
        self.assertFalse(holds_lists(tuple(document.pieces()[0][1])))

    def test_pieces_that_were_returned_may_be_changed(self):
        document = three_pieces()
        before = document.pieces()
        document.pieces().clear()
        document.pieces()[0][1].clear()
        self.assertEqual(document.pieces(), before)
        document.drop(0)
        self.assertEqual(before, [(0, ones(1, 2, 3)), (1, ones(4)), (2, [])])


class DropTest(EditTest):
    def test_each_piece(self):
        for piece in range(3):
            document = three_pieces()
            self.assertIsNone(document.drop(piece))
            self.assertEqual(numbers_of(document), [number for number in range(3) if number != piece])
            # A number is never given twice.
            self.assertEqual(document.put(0, []), 3)

    def test_the_last_piece_that_there_is(self):
        document = three_pieces()
        for piece in (1, 0, 2):
            document.drop(piece)
        self.assertEqual(document.pieces(), [])
        self.assertEqual(document.put(0, ones(9)), 3)

    def test_wrong_pieces(self):
        for piece in WRONG_NUMBERS:
            self.refuse(three_pieces(), NoSuchPiece, "drop", piece)
        document = three_pieces()
        document.drop(1)
        self.refuse(document, NoSuchPiece, "drop", 1)
        self.refuse(document, NoSuchPiece, "drop", True)


class ChangeTest(EditTest):
    def test_each_piece(self):
        for piece in range(3):
            document = three_pieces()
            self.assertIsNone(document.change(piece, ones(8, 8)))
            self.assertEqual(numbers_of(document), [0, 1, 2])
            self.assertEqual(document.pieces()[piece], (piece, ones(8, 8)))
            document.change(piece, [])
            document.change(piece, ones(*range(40)))
            self.assertEqual(document.pieces()[piece], (piece, ones(*range(40))))

    def test_wrong_pieces_come_first(self):
        for piece in WRONG_NUMBERS:
            for messages in (ones(1), [], None, [("take", 1)]):
                self.refuse(three_pieces(), NoSuchPiece, "change", piece, messages)

    def test_wrong_inputs(self):
        for messages in WRONG_INPUTS:
            self.refuse(three_pieces(), InvalidInput, "change", 1, messages)

    def test_in_a_full_document(self):
        document = full_document()
        document.change(29, ones(1))
        self.assertEqual(document.pieces()[29], (29, ones(1)))


class MoveTest(EditTest):
    def test_each_piece_to_each_place(self):
        for piece in range(3):
            for place in range(3):
                document = three_pieces()
                self.assertIsNone(document.move(piece, place))
                expected = [number for number in range(3) if number != piece]
                expected.insert(place, piece)
                self.assertEqual(numbers_of(document), expected)
                self.assertEqual(dict(document.pieces()), {0: ones(1, 2, 3), 1: ones(4), 2: []})

    def test_wrong_pieces_come_first(self):
        for piece in WRONG_NUMBERS:
            for place in (0, 3, -1, None):
                self.refuse(three_pieces(), NoSuchPiece, "move", piece, place)

    def test_wrong_places(self):
        for place in WRONG_NUMBERS:
            self.refuse(three_pieces(), NoSuchPlace, "move", 1, place)
        document = Document(Desk(latest_chain(), 0))
        document.put(0, ones(1))
        self.refuse(document, NoSuchPlace, "move", 0, 1)
        document.move(0, 0)
        self.assertEqual(document.pieces(), [(0, ones(1))])

    def test_in_a_full_document(self):
        document = full_document()
        document.move(0, 29)
        self.assertEqual(numbers_of(document), list(range(1, 30)) + [0])


class CutTest(EditTest):
    def test_after_each_number_of_messages(self):
        for place in range(4):
            document = three_pieces()
            self.assertEqual(document.cut(0, place), 3)
            self.assertEqual(document.pieces(), [
                (0, ones(1, 2, 3)[:place]), (3, ones(1, 2, 3)[place:]), (1, ones(4)), (2, [])
            ])

    def test_a_piece_without_messages(self):
        document = three_pieces()
        self.assertEqual(document.cut(2, 0), 3)
        self.assertEqual(document.pieces()[2:], [(2, []), (3, [])])

    def test_errors_in_their_order(self):
        for piece in WRONG_NUMBERS:
            for place in (0, 9, None):
                self.refuse(three_pieces(), NoSuchPiece, "cut", piece, place)
        for place in (-1, 4, GREAT, -GREAT, True, False, None, "", "1", (), [1]):
            self.refuse(three_pieces(), NoSuchPlace, "cut", 0, place)
        self.refuse(three_pieces(), NoSuchPlace, "cut", 1, 2)
        self.refuse(three_pieces(), NoSuchPlace, "cut", 2, 1)
        document = full_document()
        self.refuse(document, NoSuchPiece, "cut", 30, 0)
        self.refuse(document, NoSuchPlace, "cut", 0, 3)
        for place in range(3):
            self.refuse(document, TooMuch, "cut", 29, place)
        document.drop(3)
        self.assertEqual(document.cut(29, 2), 30)
        self.assertEqual(len(document.pieces()), 30)


class GlueTest(EditTest):
    def test_a_piece_and_the_next_one(self):
        document = three_pieces()
        self.assertIsNone(document.glue(0))
        self.assertEqual(document.pieces(), [(0, ones(1, 2, 3, 4)), (2, [])])
        document.glue(0)
        self.assertEqual(document.pieces(), [(0, ones(1, 2, 3, 4))])
        self.assertEqual(document.put(0, []), 3)
        document = three_pieces()
        document.move(2, 0)
        document.glue(2)
        self.assertEqual(document.pieces(), [(2, ones(1, 2, 3)), (1, ones(4))])

    def test_errors_in_their_order(self):
        for piece in WRONG_NUMBERS:
            self.refuse(three_pieces(), NoSuchPiece, "glue", piece)
        self.refuse(Document(Desk(latest_chain(), 0)), NoSuchPiece, "glue", 0)
        self.refuse(three_pieces(), NoSuchPlace, "glue", 2)
        document = three_pieces()
        document.change(1, ones(*range(38)))
        self.refuse(document, TooMuch, "glue", 0)
        document.move(0, 2)
        self.refuse(document, NoSuchPlace, "glue", 0)
        document.change(0, ones(*range(40)))
        self.refuse(document, NoSuchPlace, "glue", 0)

    def test_forty_messages_together(self):
        document = three_pieces()
        for first, second in ((37, 3), (0, 40), (40, 0), (1, 39)):
            document.change(0, ones(*range(first)))
            document.change(1, ones(*range(second)))
            document.glue(0)
            self.assertEqual(len(document.pieces()[0][1]), 40)
            document.undo()
        for first, second in ((37, 4), (1, 40), (40, 1), (40, 40)):
            document.change(0, ones(*range(first)))
            document.change(1, ones(*range(second)))
            self.refuse(document, TooMuch, "glue", 0)

    def test_in_a_full_document(self):
        document = full_document()
        document.glue(28)
        self.assertEqual(document.pieces()[-1], (28, ones(28, 28, 29, 29)))

    def test_the_whole_input_stays_the_same(self):
        document = three_pieces()
        before = whole(document)
        for name, arguments in (("cut", (0, 1)), ("cut", (3, 1)), ("glue", (0,)), ("glue", (4,)), ("cut", (0, 0)),
                                ("glue", (0,)), ("glue", (0,))):
            getattr(document, name)(*arguments)
            self.assertEqual(whole(document), before)


class UndoTest(EditTest):
    edits = (("put", 1, ones(5)), ("drop", 1), ("change", 0, ones(7)), ("move", 0, 2), ("cut", 0, 1), ("glue", 0))

    def test_each_edit(self):
        for name, *arguments in self.edits:
            document = three_pieces()
            before = history_of(document)[0]
            number = next_number(document)
            getattr(document, name)(*arguments)
            self.assertEqual(history_of(document)[0][1:], before)
            after, following = document.pieces(), next_number(document)
            self.assertIsNone(document.undo())
            self.assertEqual((document.pieces(), next_number(document)), (before[0][0], number))
            self.assertIsNone(document.redo())
            self.assertEqual((document.pieces(), next_number(document)), (after, following))
            with self.assertRaises(NothingToRedo):
                document.redo()

    def test_the_number_of_the_next_piece(self):
        document = three_pieces()
        self.assertEqual(document.put(0, []), 3)
        document.undo()
        self.assertEqual(document.put(0, ones(1)), 3)
        self.assertEqual(document.cut(3, 0), 4)
        document.undo()
        document.undo()
        document.redo()
        self.assertEqual(document.cut(3, 1), 4)

    def test_edits_that_change_nothing_count(self):
        document = three_pieces()
        document.move(1, 1)
        document.change(1, ones(4))
        for _ in range(2):
            document.undo()
            self.assertEqual(numbers_of(document), [0, 1, 2])
        document.undo()
        self.assertEqual(numbers_of(document), [0, 1])
        # Nor can anything be redone after such an edit.
        document.move(1, 1)
        self.refuse(document, NothingToRedo, "redo")

    def test_nothing_to_undo_or_redo(self):
        document = Document(Desk(latest_chain(), 0))
        self.refuse(document, NothingToUndo, "undo")
        self.refuse(document, NothingToRedo, "redo")
        document.put(0, ones(1))
        self.refuse(document, NothingToRedo, "redo")
        document.undo()
        self.refuse(document, NothingToUndo, "undo")
        self.assertEqual(document.pieces(), [])

    def test_after_an_edit_nothing_can_be_redone_until_the_next_undo(self):
        for name, *arguments in self.edits:
            document = three_pieces()
            document.put(3, ones(6))
            document.undo()
            getattr(document, name)(*arguments)
            self.refuse(document, NothingToRedo, "redo")
            after = document.pieces()
            document.undo()
            document.redo()
            self.assertEqual(document.pieces(), after)

    def test_refused_edits_leave_what_can_be_redone(self):
        document = three_pieces()
        document.put(3, ones(6))
        document.undo()
        self.refuse(document, NoSuchPlace, "put", 9, [])
        self.refuse(document, NoSuchPiece, "drop", 3)
        self.refuse(document, InvalidInput, "change", 0, None)
        self.refuse(document, NoSuchPlace, "glue", 2)
        document.redo()
        self.assertEqual(document.pieces()[3], (3, ones(6)))

    def test_twenty_states_and_no_more(self):
        for edits in (19, 20, 21, 25, 60):
            document = Document(Desk(latest_chain(), 0))
            document.put(0, ones(0))
            for turn in range(1, edits):
                document.change(0, ones(turn))
            many = min(edits, 20)
            for turn in range(1, many + 1):
                document.undo()
                expected = [(0, ones(edits - 1 - turn))] if turn < edits else []
                self.assertEqual(document.pieces(), expected)
            self.refuse(document, NothingToUndo, "undo")
            for turn in range(edits - many, edits):
                document.redo()
                self.assertEqual(document.pieces(), [(0, ones(turn))])
            self.refuse(document, NothingToRedo, "redo")
            self.assertEqual(len(history_of(document)[0]), many + 1)

    def test_what_is_forgotten_is_forgotten_for_good(self):
        document = Document(Desk(latest_chain(), 0))
        document.put(0, ones(0))
        for turn in range(1, 25):
            document.change(0, ones(turn))
        for _ in range(20):
            document.undo()
        # An edit after 20 undos: only one state can be gone back to.
        document.change(0, ones(99))
        document.undo()
        self.assertEqual(document.pieces(), [(0, ones(4))])
        self.refuse(document, NothingToUndo, "undo")

    def test_undo_and_redo_are_no_edits(self):
        document = three_pieces()
        for _ in range(40):
            document.undo()
            document.redo()
        for _ in range(3):
            document.undo()
        self.refuse(document, NothingToUndo, "undo")
        self.assertEqual(document.pieces(), [])


if __name__ == "__main__":
    unittest.main()
