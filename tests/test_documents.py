"""What is known of a document: points 14 to 17 and 19."""

import time
import unittest

from piecetold.chains import Chain, chain_start, deed_from, written
from piecetold.classes import class_of, deed_of
from piecetold.desks import Desk
from piecetold.documents import Document
from piecetold.errors import InvalidWorker, NoSuchChannel, NoSuchPlace, PieceError, TooMuch
from piecetold.programs import Program
from piecetold.readers import Reader
from samples import THREE_DEED, THREE_INPUT, changed, greatest_parts, holds_lists, latest_chain, lists_of, shown
from samples import some_messages, three_chain

GREAT = 10 ** 5000

# Classes of the example's program, and their deeds, worked out by hand.
FIRST = (((0, ()),), (("put", 0),))
FIRST_DEED = [((1, (0,), ()),)]
LOW = (((1, (1,)),), (("put", 0),))
LOW_DEED = [((1, (0,), (("out", "low", 0),)),)]
HIGH = (((1, (0,)),), (("put", 1),))
HIGH_DEED = [((1, (1,), (("out", "high", 1),)),)]
FALL = (((0, ()),), (("put", 1), ("put", 0)))
FALL_DEED = [((1, (1,), ()),), ((1, (0,), (("out", "low", 0),)),)]


def puts(*integers):
    return [("put", integer) for integer in integers]


def document_of(chain, liars, *inputs):
    document = Document(Desk(chain, liars))
    for place, messages in enumerate(inputs):
        document.put(place, messages)
    return document


def tell_right(document, workers=(90, 91, 92, 93)):
    """Workers tell the right deed of the wanted class until it is kept."""
    desk, some_class = document.desk, document.wanted()
    for worker in workers[:desk.liars + 1]:
        last = desk.tell(worker, some_class, deed_of(desk.chain, some_class))
    return last


def tell_all(document):
    """How many deeds had to be told until all pieces are known."""
    many = 0
    while document.wanted() is not None:
        tell_right(document)
        many += 1
    return many


def knowledge(document):
    """All that is known, with the origins."""
    outputs = {}
    for at, program in enumerate(document.desk.chain.programs):
        for channel, _ in program.channels:
            messages = document.output(at, channel)
            origins = [document.origin(at, channel, index) for index in range(len(messages))]
            outputs[(at, channel)] = (messages, origins)
    return document.known(), document.front(), document.wanted(), outputs


class KnownTest(unittest.TestCase):
    def test_a_document_without_pieces(self):
        document = document_of(three_chain(), 0)
        self.assertEqual(document.known(), (0, 0))
        self.assertEqual(document.front(), chain_start(three_chain()))
        self.assertIsNone(document.wanted())
        self.assertEqual(document.output(1, "out"), [])

    def test_the_documents_example(self):
        document = document_of(latest_chain(), 0, puts(7, 3), puts(8))
        self.assertEqual(document.pieces(), [(0, puts(7, 3)), (1, puts(8))])
        self.assertEqual(document.wanted(), FALL)
        self.assertEqual(document.desk.tell(4, document.wanted(), deed_of(document.desk.chain, FALL)), "taken")
        self.assertEqual([document.output(0, "out"), document.known(), document.wanted()],
                         [[("low", 3)], (1, 2), (((1, (0,)),), (("put", 1),))])
        self.assertEqual(document.front(), ((1, (3,)),))

    def test_piece_by_piece(self):
        for cuts in ((3, 4, 8), (1, 2, 3), (0, 4, 4), (9, 9, 9), (5, 6, 7)):
            ends = cuts + (9,)
            inputs = [THREE_INPUT[first:last] for first, last in zip((0,) + cuts, ends)]
            document = document_of(three_chain(), 1, *inputs)
            for many in range(5):
                at = ends[many - 1] if many else 0
                while document.known()[0] < many:
                    self.assertEqual(tell_right(document), "taken")
                known, messages = document.known()
                # Pieces without messages are known as soon as they are reached.
                self.assertTrue(all(not given for given in inputs[many:known]))
                self.assertEqual(messages, at)
                front = tuple(part[:2] for part in THREE_DEED[at - 1]) if at else chain_start(three_chain())
                self.assertEqual(document.front(), front)
                for program, channel in ((0, "link"), (0, "log"), (1, "out"), (2, "end")):
                    self.assertEqual(document.output(program, channel), written(THREE_DEED[:at], program, channel))
                self.assertEqual(document.wanted(), class_of(three_chain(), front, inputs[known]) if known < 4 else None)

    def test_pieces_without_messages(self):
        document = document_of(latest_chain(), 0, [], [], puts(5), [], puts(4))
        self.assertEqual((document.known(), document.wanted()), ((2, 0), FIRST))
        tell_right(document)
        self.assertEqual((document.known(), document.wanted(), document.front()), ((4, 1), LOW, ((1, (5,)),)))
        tell_right(document)
        self.assertEqual((document.known(), document.wanted(), document.front()), ((5, 2), None, ((1, (4,)),)))
        document.put(0, [])
        self.assertEqual((document.known(), document.wanted()), ((6, 2), None))
        document.drop(2)
        self.assertEqual((document.known(), document.wanted(), document.front()), ((5, 1), None, ((1, (4,)),)))
        document.drop(4)
        self.assertEqual((document.known(), document.wanted(), document.front()), ((4, 0), None, ((0, ()),)))

    def test_pieces_that_are_alike_are_asked_once(self):
        document = document_of(latest_chain(), 0, puts(5), puts(4), puts(-3), puts(-GREAT), puts(9), puts(GREAT))
        self.assertEqual(tell_all(document), 3)
        self.assertEqual(document.desk.classes(), [FIRST, LOW, HIGH])
        self.assertEqual(document.output(0, "out"),
                         [("low", 4), ("low", -3), ("low", -GREAT), ("high", 9), ("high", GREAT)])
        document.change(2, puts(100))
        self.assertEqual((document.known(), document.output(0, "out")[:2]), ((6, 6), [("low", 4), ("high", 100)]))

    def test_the_pieces_after_the_first_unknown_one_are_not_known(self):
        document = document_of(latest_chain(), 0, puts(5), puts(4), puts(3))
        tell_all(document)
        document.change(0, puts(5, 5))
        self.assertEqual((document.known(), document.output(0, "out"), document.front()), ((0, 0), [], ((0, ()),)))
        document.move(0, 2)
        self.assertEqual((document.known(), document.output(0, "out")), ((2, 2), [("low", 3)]))
        self.assertEqual(document.wanted(), (((1, (0,)),), (("put", 1), ("put", 1))))

    def test_undo_and_redo_bring_back_what_is_known(self):
        document = document_of(three_chain(), 0, THREE_INPUT[:4], THREE_INPUT[4:])
        tell_all(document)
        whole = knowledge(document)
        for name, *arguments in (("change", 0, [("take", 1)]), ("drop", 1), ("move", 1, 0), ("cut", 0, 2), ("glue", 0),
                                 ("put", 0, [("put", 3)])):
            getattr(document, name)(*arguments)
            after = knowledge(document)
            document.undo()
            self.assertEqual(knowledge(document), whole)
            document.redo()
            self.assertEqual(knowledge(document), after)
            document.undo()

    def test_undo_and_redo_keep_no_deeds_and_take_none_away(self):
        document = document_of(latest_chain(), 0, puts(7, 3))
        tell_all(document)
        document.cut(0, 1)
        classes = document.desk.classes()
        self.assertEqual(classes, [FALL, FIRST, LOW])
        for name in ("undo", "redo", "undo", "undo", "redo"):
            getattr(document, name)()
            self.assertEqual(document.desk.classes(), classes)
        self.assertEqual([document.desk.kept(some_class) for some_class in classes], [FALL_DEED, FIRST_DEED, LOW_DEED])

    def test_what_is_returned_may_be_changed_and_stays(self):
        document = document_of(latest_chain(), 0, puts(7, 3))
        tell_all(document)
        output = document.output(0, "out")
        document.output(0, "out").clear()
        self.assertEqual(document.output(0, "out"), [("low", 3)])
        document.drop(0)
        self.assertEqual((output, document.output(0, "out")), ([("low", 3)], []))
        document = document_of(three_chain(), 0, lists_of(THREE_INPUT))
        document.desk.tell(0, lists_of(document.wanted()), lists_of(deed_of(three_chain(), document.wanted())))
        for value in (document.known(), document.front(), tuple(document.output(0, "link")),
                      document.origin(2, "end", 0)):
            self.assertFalse(holds_lists(value))
        self.assertIsInstance(document.output(0, "link"), list)

    def test_no_such_channel(self):
        document = document_of(three_chain(), 0, THREE_INPUT)
        tell_all(document)
        for program, channel in ((3, "end"), (-1, "end"), (GREAT, "out"), (True, "out"), (False, "link"), (None, "out"),
                                 ("0", "link"), ("", ""), (0, "out"), (1, "link"), (2, "tick"), (1, "log"), (0, ""),
                                 (0, None), (0, 0), (0, True), (1, "up"), (0, ("link",)), (0, ["link"]), ((), "out"),
                                 ([0], "link"), (0, "Link"), (None, None)):
            with self.subTest(shown((program, channel))):
                with self.assertRaises(NoSuchChannel):
                    document.output(program, channel)
                for index in (0, -1, 10 ** 9, None):
                    with self.assertRaises(NoSuchChannel):
                        document.origin(program, channel, index)


class LiarsTest(unittest.TestCase):
    def test_more_workers_than_may_lie_are_needed(self):
        for liars in range(4):
            document = document_of(latest_chain(), liars, puts(7, 3), puts(8))
            for worker in range(liars):
                self.assertEqual(document.desk.tell(worker, FALL, FALL_DEED), "told")
                self.assertEqual((document.known(), document.wanted(), document.output(0, "out")), ((0, 0), FALL, []))
            self.assertEqual(document.desk.tell(50, FALL, FALL_DEED), "taken")
            self.assertEqual((document.known(), document.wanted()), ((1, 2), HIGH))

    def test_lies_of_as_many_as_may_lie(self):
        lie = changed(FALL_DEED, (1, 0, 2, 0, 1), "high")
        for liars in range(1, 4):
            document = document_of(latest_chain(), liars, puts(7, 3))
            for worker in range(liars):
                document.desk.tell(worker, FALL, lie)
            self.assertEqual(document.known(), (0, 0))
            tell_right(document)
            self.assertEqual((document.output(0, "out"), document.wanted()), ([("low", 3)], None))
            self.assertEqual(document.desk.named(), list(range(liars)))

    def test_a_wrong_deed_that_is_kept_tells_what_is_written_and_what_comes_next(self):
        document = document_of(latest_chain(), 0, puts(7, 3), puts(5))
        wrong = [((1, (0,), (("out", "high", 1), ("out", "low", 0))),), ((1, (1,), ()),)]
        self.assertEqual(document.desk.tell(0, FALL, wrong), "taken")
        self.assertEqual(document.desk.tell(1, FALL, FALL_DEED), "wrong")
        self.assertEqual(document.output(0, "out"), [("high", 7), ("low", 3)])
        self.assertEqual((document.known(), document.front(), document.wanted()), ((1, 2), ((1, (7,)),), LOW))


class CutAndGlueTest(unittest.TestCase):
    def test_a_cut_keeps_deeds_for_both_parts_the_first_one_first(self):
        document = document_of(latest_chain(), 2, puts(7, 3))
        tell_all(document)
        document.cut(0, 1)
        self.assertEqual(document.desk.classes(), [FALL, FIRST, LOW])
        self.assertEqual([document.desk.kept(some_class) for some_class in document.desk.classes()],
                         [FALL_DEED, FIRST_DEED, LOW_DEED])
        self.assertEqual((document.known(), document.output(0, "out")), ((2, 2), [("low", 3)]))

    def test_a_glue_keeps_one_deed(self):
        document = document_of(latest_chain(), 2, puts(7), puts(3))
        tell_all(document)
        document.glue(0)
        self.assertEqual(document.desk.classes(), [FIRST, LOW, FALL])
        self.assertEqual(document.desk.kept(FALL), FALL_DEED)
        self.assertEqual((document.known(), document.output(0, "out")), ((1, 2), [("low", 3)]))

    def test_keeping_ends_what_is_open_and_names_workers(self):
        for first in (True, False):
            document = document_of(latest_chain(), 3, *([puts(7, 3)] if first else [puts(7), puts(3)]))
            desk = document.desk
            tell_all(document)
            told = [(FIRST, FIRST_DEED), (LOW, LOW_DEED)] if first else [(FALL, FALL_DEED)]
            for some_class, deed in told:
                for worker in (8, 5):
                    self.assertEqual(desk.tell(worker, some_class, changed(deed, (0, 0, 2), (("out", "high", 0),))), "told")
                self.assertEqual(desk.tell(2, some_class, deed), "told")
            desk.tell(1, HIGH, HIGH_DEED)
            self.assertEqual((desk.open_count(), desk.named()), (3 * len(told) + 1, []))
            self.assertEqual(document.cut(0, 1) if first else document.glue(0), 1 if first else None)
            self.assertEqual((desk.open_count(), desk.named()), (1, [5, 8]))
            self.assertEqual(desk.tell(2, told[0][0], told[0][1]), "known")
            self.assertEqual(desk.tell(3, told[0][0], changed(told[0][1], (0, 0, 2), (("out", "high", 0),))), "wrong")
            self.assertEqual(desk.named(), [3, 5, 8])

    def test_nothing_is_kept_for_parts_without_messages(self):
        for place in (0, 2):
            document = document_of(latest_chain(), 1, puts(7, 3))
            tell_all(document)
            document.cut(0, place)
            self.assertEqual((document.desk.classes(), document.known()), ([FALL], (2, 2)))
            document.glue(0)
            self.assertEqual((document.desk.classes(), document.known()), ([FALL], (1, 2)))
        document = document_of(latest_chain(), 1, [], [])
        document.cut(0, 0)
        document.glue(0)
        self.assertEqual((document.desk.classes(), document.known()), ([], (2, 0)))

    def test_nothing_is_kept_for_unknown_pieces(self):
        document = document_of(latest_chain(), 0, puts(7), puts(3, 4))
        tell_right(document)
        document.cut(1, 1)
        self.assertEqual((document.desk.classes(), document.wanted()), ([FIRST], LOW))
        document.glue(1)
        document.glue(0)
        self.assertEqual((document.desk.classes(), document.known()), ([FIRST], (0, 0)))
        document.cut(0, 1)
        self.assertEqual((document.desk.classes(), document.known()), ([FIRST], (1, 1)))

    def test_nothing_is_kept_where_a_deed_is_kept_already(self):
        document = document_of(latest_chain(), 0, puts(7, 3))
        desk = document.desk
        wrong_first = [((0, (), (("out", "high", 0),)),)]
        self.assertEqual(desk.tell(1, FIRST, wrong_first), "taken")
        self.assertEqual(desk.tell(2, LOW, [((1, (1,), ()),)]), "taken")
        tell_all(document)
        document.cut(0, 1)
        self.assertEqual(desk.classes(), [FIRST, LOW, FALL])
        self.assertEqual((desk.kept(FIRST), desk.kept(LOW)), (wrong_first, [((1, (1,), ()),)]))
        self.assertEqual(desk.named(), [])
        # What is kept for the parts tells from now on what they do.
        self.assertEqual((document.known(), document.output(0, "out")), ((2, 2), [("high", 7), ("high", 3)]))
        document.glue(0)
        self.assertEqual((desk.kept(FALL), document.output(0, "out")), (FALL_DEED, [("low", 3)]))

    def test_both_parts_may_have_one_class(self):
        # Both are heard in state 0; the first part's steps are kept, not the second one's.
        document = document_of(latest_chain(), 0, puts(7, 3))
        wrong = [((0, (), (("out", "high", 1),)),), ((0, (), (("out", "low", 0),)),)]
        document.desk.tell(0, FALL, wrong)
        document.cut(0, 1)
        self.assertEqual(document.desk.classes(), [FALL, FIRST])
        self.assertEqual(document.desk.kept(FIRST), [((0, (), (("out", "high", 0),)),)])
        self.assertEqual(document.output(0, "out"), [("high", 7), ("high", 3)])

    def test_the_second_part_begins_where_the_steps_of_the_first_one_reach(self):
        document = document_of(latest_chain(), 0, puts(7, 3, 5))
        desk = document.desk
        some_class = (((0, ()),), (("put", 2), ("put", 0), ("put", 1)))
        desk.tell(0, FALL, FALL_DEED)
        # A wrong deed: after two messages the greatest integer is kept.
        self.assertEqual(document.wanted(), some_class)
        desk.tell(0, some_class, [((1, (0,), ()),), ((1, (2,), ()),), ((1, (1,), (("out", "low", 1),)),)])
        document.cut(0, 2)
        self.assertEqual(desk.classes(), [FALL, some_class, LOW])
        self.assertEqual(desk.kept(FALL), FALL_DEED)
        self.assertEqual(desk.kept(LOW), LOW_DEED)
        # The piece's first part is known by the other deed, so another class is wanted now.
        self.assertEqual((document.known(), document.wanted()), ((1, 2), HIGH))

    def test_an_integer_that_occurs_neither_in_the_beginning_nor_in_the_messages(self):
        # The first part writes the second part's integer: nothing is kept for it, but for the second one.
        document = document_of(latest_chain(), 0, puts(7, 3))
        document.desk.tell(0, FALL, [((1, (1,), (("out", "low", 0),)),)] + FALL_DEED[1:])
        document.cut(0, 1)
        self.assertEqual((document.desk.classes(), document.desk.kept(LOW)), ([FALL, LOW], LOW_DEED))
        self.assertEqual((document.known(), document.wanted(), document.output(0, "out")), ((0, 0), FIRST, []))
        # The first part keeps it.
        document = document_of(latest_chain(), 0, puts(7, 3))
        document.desk.tell(0, FALL, [((1, (0,), ()),)] + FALL_DEED[1:])
        document.cut(0, 1)
        same = (((1, (0,)),), (("put", 0),))
        self.assertEqual((document.desk.classes(), document.desk.kept(same)), ([FALL, same], LOW_DEED))
        # The second part writes an integer that was forgotten.
        document = document_of(latest_chain(), 0, puts(7, 3))
        document.desk.tell(0, FALL, [((0, (), ()),), ((1, (0,), (("out", "high", 1),)),)])
        document.cut(0, 1)
        self.assertEqual((document.desk.classes(), document.desk.kept(FIRST)), ([FALL, FIRST], [((0, (), ()),)]))
        # It keeps one that was forgotten: nothing else was wrong with it.
        document = document_of(latest_chain(), 0, puts(7, 3))
        document.desk.tell(0, FIRST, FIRST_DEED)
        document.desk.tell(0, FALL, [((0, (), ()),), ((1, (1,), ()),)])
        document.cut(0, 1)
        self.assertEqual(document.desk.classes(), [FIRST, FALL])

    def test_an_integer_of_the_beginning_may_occur(self):
        document = document_of(three_chain(), 0, THREE_INPUT[:5], THREE_INPUT[5:])
        tell_all(document)
        before = document.output(2, "end")
        document.cut(0, 4)
        # The fourth message is 9, the fifth one 8; the integer 3 is only kept from before.
        some_class = class_of(three_chain(), ((1, (3,)), (1, (9,)), (0, ())), THREE_INPUT[4:5])
        self.assertEqual(document.desk.kept(some_class), deed_of(three_chain(), some_class))
        self.assertEqual((document.known(), document.output(2, "end")), ((3, 9), before))

    def test_nothing_is_asked_again_after_cutting_and_gluing(self):
        for liars in (0, 3):
            document = document_of(three_chain(), liars, THREE_INPUT[:4], THREE_INPUT[4:])
            tell_all(document)
            whole = [document.output(program, channel) for program, channel in ((0, "link"), (1, "out"), (2, "end"))]
            for name, *arguments in (("cut", 0, 2), ("cut", 2, 1), ("glue", 2), ("cut", 1, 4), ("glue", 2), ("cut", 0, 0),
                                     ("glue", 0), ("cut", 2, 6), ("glue", 0), ("glue", 0), ("glue", 0)):
                getattr(document, name)(*arguments)
                self.assertIsNone(document.wanted())
                self.assertEqual(document.known(), (len(document.pieces()), 9))
                outputs = [document.output(program, channel) for program, channel in
                           ((0, "link"), (1, "out"), (2, "end"))]
                self.assertEqual(outputs, whole)
            self.assertEqual(document.pieces(), [(0, THREE_INPUT)])
            for some_class in document.desk.classes():
                self.assertEqual(document.desk.kept(some_class), deed_of(three_chain(), some_class))

    def test_refused_edits_keep_nothing(self):
        document = document_of(latest_chain(), 0, puts(*range(40)), puts(7, 3), puts(5))
        tell_all(document)
        classes = document.desk.classes()
        for name, *arguments in (("glue", 0), ("glue", 2), ("cut", 1, 3), ("cut", 1, True), ("cut", 9, 1)):
            with self.assertRaises(PieceError):
                getattr(document, name)(*arguments)
            self.assertEqual(document.desk.classes(), classes)
        for _ in range(27):
            document.put(3, [])
        with self.assertRaises(TooMuch):
            document.cut(1, 1)
        self.assertEqual(document.desk.classes(), classes)

    def test_other_edits_keep_nothing(self):
        document = document_of(latest_chain(), 0, puts(7, 3), puts(5))
        tell_all(document)
        classes = document.desk.classes()
        for name, *arguments in (("move", 0, 1), ("change", 0, puts(7)), ("drop", 1), ("put", 0, puts(3)), ("undo",),
                                 ("redo",)):
            getattr(document, name)(*arguments)
            self.assertEqual(document.desk.classes(), classes)


class TwoDocumentsTest(unittest.TestCase):
    def test_what_is_told_for_one_is_known_for_the_other(self):
        desk = Desk(latest_chain(), 1)
        one, other = Document(desk), Document(desk)
        self.assertEqual((one.put(0, puts(7, 3)), one.put(1, puts(9)), other.put(0, puts(-5, -50))), (0, 1, 0))
        self.assertEqual((one.wanted(), other.wanted()), (FALL, FALL))
        desk.tell(0, one.wanted(), FALL_DEED)
        desk.tell(1, other.wanted(), FALL_DEED)
        self.assertEqual((one.known(), other.known()), ((1, 2), (1, 2)))
        self.assertEqual((one.output(0, "out"), other.output(0, "out")), ([("low", 3)], [("low", -50)]))
        self.assertEqual((one.wanted(), other.wanted()), (HIGH, None))

    def test_what_one_keeps_by_an_edit_is_known_for_the_other(self):
        desk = Desk(latest_chain(), 0)
        one, other = Document(desk), Document(desk)
        one.put(0, puts(7, 3))
        other.put(0, puts(1))
        other.put(1, puts(0))
        self.assertEqual(other.wanted(), FIRST)
        tell_all(one)
        self.assertEqual(other.known(), (0, 0))
        one.cut(0, 1)
        self.assertEqual((other.known(), other.wanted(), other.output(0, "out")), ((2, 2), None, [("low", 0)]))

    def test_edits_of_one_leave_the_other(self):
        desk = Desk(latest_chain(), 0)
        one, other = Document(desk), Document(desk)
        one.put(0, puts(7, 3))
        self.assertEqual(other.pieces(), [])
        other.put(0, puts(1))
        one.undo()
        self.assertEqual((one.pieces(), other.pieces()), ([], [(0, puts(1))]))


class NextClassTest(unittest.TestCase):
    def test_the_wanted_class_then_guesses_in_their_order(self):
        document = document_of(latest_chain(), 2, puts(7, 3))
        desk = document.desk
        for some_class in (HIGH, FALL, LOW):
            desk.guess(some_class)
        self.assertEqual(document.next_class(0), FALL)
        desk.tell(0, FALL, FALL_DEED)
        self.assertEqual((document.next_class(0), document.next_class(1)), (HIGH, FALL))
        desk.tell(0, HIGH, HIGH_DEED)
        self.assertEqual((document.next_class(0), document.next_class(1)), (LOW, FALL))
        desk.tell(0, LOW, LOW_DEED)
        self.assertIsNone(document.next_class(0))
        self.assertEqual(document.next_class(99), FALL)

    def test_a_guess_for_which_a_deed_is_kept_is_left_out(self):
        document = document_of(latest_chain(), 0, puts(7, 3))
        desk = document.desk
        desk.guess(HIGH)
        desk.guess(LOW)
        desk.tell(1, HIGH, HIGH_DEED)
        self.assertEqual(document.next_class(0), FALL)
        desk.tell(1, FALL, FALL_DEED)
        self.assertIsNone(document.wanted())
        self.assertEqual((document.next_class(0), document.next_class(1)), (LOW, LOW))
        desk.tell(1, LOW, LOW_DEED)
        self.assertIsNone(document.next_class(0))

    def test_nothing(self):
        document = document_of(latest_chain(), 1)
        self.assertIsNone(document.next_class(0))
        document.put(0, [])
        self.assertIsNone(document.next_class(0))
        document.put(1, puts(1))
        self.assertEqual(document.next_class(0), FIRST)
        document.desk.tell(0, FIRST, FIRST_DEED)
        self.assertIsNone(document.next_class(0))
        self.assertEqual(document.next_class(1), FIRST)

    def test_who_told_a_deed_for_another_class_can_do_it(self):
        document = document_of(latest_chain(), 1, puts(7, 3))
        document.desk.tell(0, FIRST, FIRST_DEED)
        self.assertEqual(document.next_class(0), FALL)

    def test_wrong_workers(self):
        document = document_of(latest_chain(), 0, puts(7))
        for worker in (-1, 100, GREAT, -GREAT, True, False, None, "", "1", (), [1]):
            with self.subTest(shown(worker)):
                with self.assertRaises(InvalidWorker):
                    document.next_class(worker)


class OriginTest(unittest.TestCase):
    def origins(self, document, program, channel):
        return [document.origin(program, channel, index) for index in range(len(document.output(program, channel)))]

    def test_worked_out_by_hand(self):
        document = document_of(three_chain(), 0, THREE_INPUT[:2], [], THREE_INPUT[2:5], THREE_INPUT[5:])
        tell_all(document)
        # The inputs are 5 3, nothing, 3 9 8, and 8 1 4 2.
        self.assertEqual(self.origins(document, 0, "log"), [
            ((0, 0), (0, 0)), ((0, 1), (0, 1)), ((3, 0), (3, 0)), ((3, 2), (3, 2))
        ])
        self.assertEqual(self.origins(document, 0, "link"), [
            ((0, 1), (0, 1)), ((0, 1), (0, 0)), ((2, 0), (2, 0)), ((2, 1), (2, 1)), ((2, 2), (2, 2)), ((2, 2), (2, 2)),
            ((2, 2), (2, 0))
        ])
        self.assertEqual(self.origins(document, 1, "out"), [
            ((0, 1), (0, 1)), ((0, 1), (0, 0)), ((2, 0), (0, 0)), ((2, 0), (2, 0)), ((2, 2), (2, 2)), ((2, 2), (2, 0))
        ])
        self.assertEqual(self.origins(document, 2, "end"), [
            ((0, 1), (0, 0)), ((0, 1), (0, 0)), ((2, 0), (2, 0)), ((2, 0), (2, 0)), ((2, 2), (2, 0)), ((2, 2), (2, 0))
        ])

    def test_behind_edits(self):
        document = document_of(latest_chain(), 0, puts(7, 3), puts(8), puts(3, 8))
        tell_all(document)
        self.assertEqual(self.origins(document, 0, "out"),
                         [((0, 1), (0, 1)), ((1, 0), (1, 0)), ((2, 0), (2, 0)), ((2, 1), (2, 1))])
        document.cut(0, 1)
        self.assertEqual(self.origins(document, 0, "out")[0], ((3, 0), (3, 0)))
        document.move(2, 0)
        tell_all(document)
        self.assertEqual(self.origins(document, 0, "out"),
                         [((2, 1), (2, 1)), ((0, 0), (0, 0)), ((3, 0), (3, 0)), ((1, 0), (1, 0))])
        document.glue(2)
        self.assertEqual(self.origins(document, 0, "out")[1], ((2, 2), (2, 2)))

    def test_the_last_message_that_has_the_integer(self):
        # The program writes the integer that it kept when the same one or a greater one comes.
        rules = [(0, "put", 0, 1, (0,), ()), (1, "put", 0, 1, (0,), ())]
        rules = rules + [(1, "put", 1, 1, (0,), (("out", "same", 0),)), (1, "put", 2, 1, (0,), (("out", "old", 0),))]
        chain = Chain([Program(("put",), (("out", ("same", "old")),), (0, 1), rules)])
        document = document_of(chain, 0, puts(2, 5, 2), [], puts(2, 2, 9), puts(9, 2, 9))
        tell_all(document)
        self.assertEqual(document.output(0, "out"), [
            ("old", 2), ("same", 2), ("same", 2), ("same", 2), ("old", 2), ("old", 2), ("same", 2), ("old", 2)
        ])
        self.assertEqual(self.origins(document, 0, "out"), [
            ((0, 1), (0, 0)), ((0, 2), (0, 2)), ((2, 0), (2, 0)), ((2, 1), (2, 1)), ((2, 2), (2, 1)), ((3, 0), (2, 1)),
            ((3, 1), (3, 1)), ((3, 2), (3, 1))
        ])

    def test_none_where_a_wrong_deed_was_kept(self):
        document = document_of(latest_chain(), 0, puts(7, 3))
        document.desk.tell(0, FALL, [((1, (1,), (("out", "low", 0), ("out", "high", 1))),)] + FALL_DEED[1:])
        self.assertEqual(document.output(0, "out"), [("low", 3), ("high", 7), ("low", 3)])
        self.assertEqual(self.origins(document, 0, "out"), [((0, 0), None), ((0, 0), (0, 0)), ((0, 1), (0, 1))])

    def test_no_such_place(self):
        document = document_of(latest_chain(), 0, puts(7, 3), puts(5))
        for index in (0, -1, 1, None):
            with self.assertRaises(NoSuchPlace):
                document.origin(0, "out", index)
        tell_all(document)
        document.origin(0, "out", 1)
        for index in (-1, -2, 2, GREAT, -GREAT, True, False, None, "", "0", (), [0]):
            with self.subTest(shown(index)):
                with self.assertRaises(NoSuchPlace):
                    document.origin(0, "out", index)
        document.drop(1)
        with self.assertRaises(NoSuchPlace):
            document.origin(0, "out", 1)

    def test_no_such_channel_comes_first(self):
        document = document_of(latest_chain(), 0, puts(7, 3))
        for program, channel in ((1, "out"), (0, "low"), (None, "out"), (0, None), (False, "out")):
            for index in (0, 7, None):
                with self.assertRaises(NoSuchChannel):
                    document.origin(program, channel, index)


class GreatDocumentTest(unittest.TestCase):
    def great_chain(self):
        programs = [Program(*greatest_parts(shift)) for shift in range(3)]
        return Chain(programs, ["zzzzzzzz", "zzzzzzzz"])

    def test_thirty_pieces_with_forty_messages_and_great_integers(self):
        chain = self.great_chain()
        messages = some_messages(5, chain, 1200, 10 ** 200)
        document = document_of(chain, 1, *[messages[at:at + 40] for at in range(0, 1200, 40)])
        tell_all(document)
        self.assertEqual(document.known(), (30, 1200))
        deed = deed_from(chain, chain_start(chain), messages)
        for at, program in enumerate(chain.programs):
            for channel, _ in program.channels:
                self.assertEqual(document.output(at, channel), written(deed, at, channel))

    def test_it_answers_quickly_after_each_edit_and_each_deed(self):
        chain = self.great_chain()
        messages = some_messages(6, chain, 1200, 300)
        begun = time.process_time()
        document = document_of(chain, 0, *[messages[at:at + 40] for at in range(0, 1200, 40)])
        reader = Reader(document)
        for turn in range(15):
            document.change(2 * turn, some_messages(turn, chain, 40, 300))
            while document.wanted() is not None:
                tell_right(document)
                self.assertEqual(document.known()[0] == 30, document.wanted() is None)
                reader.changes()
            many = len(document.output(2, "zzzzzzzz"))
            for index in range(0, many, 50):
                document.origin(2, "zzzzzzzz", index)
            document.move(2 * turn, 0)
            document.next_class(3)
        # It should take about two seconds.
        self.assertLess(time.process_time() - begun, 60)


if __name__ == "__main__":
    unittest.main()
