import copy
import unittest

from piecetold.chains import chain_start
from piecetold.classes import class_of, deed_of
from piecetold.desks import Desk
from piecetold.documents import Document
from piecetold.errors import InvalidClass, InvalidDeed, InvalidDesk, InvalidWorker, ToldOther
from samples import THREE_INPUT, changed, holds_lists, latest_chain, lists_of, shown, three_chain

GREAT = 10 ** 5000

# After 7 the integer 3 is less; the deeds are worked out by hand, in ranks.
CLASS = (((1, (1,)),), (("put", 0),))
RIGHT = [((1, (0,), (("out", "low", 0),)),)]
HIGH = [((1, (0,), (("out", "high", 0),)),)]
QUIET = [((1, (0,), ()),)]
OTHER = (((0, ()),), (("put", 0),))
OTHER_DEED = [((1, (0,), ()),)]
LAST = (((1, (0,)),), (("put", 1),))

WRONG_WORKERS = (-1, 100, 101, GREAT, -GREAT, True, False, None, "", "1", "worker", (), [1], (1,))
WRONG_CLASSES = (None, True, False, 0, 5, "", "ab", (), CLASS[:1], CLASS + ((),), changed(CLASS, (1, 0, 0), "take"),
                 changed(CLASS, (0, 0, 1, 0), 2), changed(CLASS, (0, 0, 1, 0), True), changed(CLASS, (0, 0, 0), True),
                 (CLASS[0], ()), (((0, ()),), (("put", 0),) * 41))
WRONG_DEEDS = (None, True, False, 0, "", "x", (), [], RIGHT * 2, [()], [RIGHT[0] * 2], [((1, (2,), ()),)],
               [((1, (True,), ()),)], [((1, (0,), (("out", "low", 2),)),)], [((1, (0,), (("out", "none", 0),)),)],
               [((0, (0,), ()),)], [((1, (0,), (("out", "low", 0),) * 4),)])


def state_of(desk):
    """All that a desk tells."""
    return (desk.classes(), [desk.kept(some_class) for some_class in desk.classes()], desk.open_count(), desk.named(),
            desk.guesses())


class MakingTest(unittest.TestCase):
    def test_a_new_desk(self):
        chain = latest_chain()
        for liars in range(4):
            desk = Desk(chain, liars)
            self.assertIs(desk.chain, chain)
            self.assertEqual(desk.liars, liars)
            self.assertEqual(state_of(desk), ([], [], 0, [], []))
            self.assertIsNone(desk.kept(CLASS))

    def test_wrong_numbers_of_liars(self):
        for liars in (-1, 4, 5, GREAT, -GREAT, True, False, None, "", "0", "abc", (), (0,), [1]):
            with self.subTest(shown(liars)):
                with self.assertRaises(InvalidDesk):
                    Desk(latest_chain(), liars)


class TellTest(unittest.TestCase):
    def test_a_deed_is_kept_when_more_workers_than_may_lie_have_told_it(self):
        for liars in range(4):
            desk = Desk(latest_chain(), liars)
            for worker in range(liars):
                self.assertEqual(desk.tell(worker, CLASS, RIGHT), "told")
                self.assertEqual((desk.open_count(), desk.classes(), desk.kept(CLASS)), (worker + 1, [], None))
            self.assertEqual(desk.tell(99, CLASS, RIGHT), "taken")
            self.assertEqual(state_of(desk), ([CLASS], [RIGHT], 0, [], []))

    def test_the_same_worker_counts_once(self):
        desk = Desk(latest_chain(), 1)
        self.assertEqual(desk.tell(0, CLASS, RIGHT), "told")
        for _ in range(5):
            self.assertEqual(desk.tell(0, CLASS, RIGHT), "again")
        self.assertEqual(state_of(desk), ([], [], 1, [], []))
        self.assertEqual(desk.tell(1, CLASS, RIGHT), "taken")

    def test_only_those_who_told_the_same_deed_count(self):
        desk = Desk(latest_chain(), 2)
        for worker, deed in enumerate([RIGHT, HIGH, QUIET, RIGHT, HIGH, QUIET]):
            self.assertEqual(desk.tell(worker, CLASS, deed), "told")
            self.assertEqual(desk.open_count(), worker + 1)
        self.assertEqual(desk.named(), [])
        self.assertEqual(desk.tell(70, CLASS, QUIET), "taken")
        self.assertEqual(state_of(desk), ([CLASS], [QUIET], 0, [0, 1, 3, 4], []))

    def test_only_what_was_told_for_the_same_class_counts(self):
        desk = Desk(latest_chain(), 1)
        self.assertEqual(desk.tell(0, CLASS, QUIET), "told")
        self.assertEqual(desk.tell(1, OTHER, QUIET), "told")
        self.assertEqual(desk.tell(1, LAST, QUIET), "told")
        self.assertEqual(desk.open_count(), 3)
        self.assertEqual(desk.tell(2, OTHER, QUIET), "taken")
        self.assertEqual(state_of(desk), ([OTHER], [QUIET], 2, [], []))

    def test_known_and_wrong(self):
        desk = Desk(latest_chain(), 0)
        self.assertEqual(desk.tell(5, CLASS, RIGHT), "taken")
        self.assertEqual(desk.tell(5, CLASS, RIGHT), "known")
        self.assertEqual(desk.tell(6, CLASS, RIGHT), "known")
        self.assertEqual(desk.named(), [])
        self.assertEqual(desk.tell(6, CLASS, HIGH), "wrong")
        self.assertEqual(desk.tell(5, CLASS, QUIET), "wrong")
        self.assertEqual(desk.tell(6, CLASS, QUIET), "wrong")
        self.assertEqual(desk.tell(6, CLASS, RIGHT), "known")
        self.assertEqual(state_of(desk), ([CLASS], [RIGHT], 0, [5, 6], []))

    def test_who_told_another_deed_before_or_after_is_named_in_ascending_order(self):
        for liars in range(1, 4):
            desk = Desk(latest_chain(), liars)
            for worker in range(liars):
                self.assertEqual(desk.tell(60 - worker, CLASS, HIGH), "told")
            for worker in range(liars):
                self.assertEqual(desk.tell(40 + worker, CLASS, RIGHT), "told")
                self.assertEqual((desk.named(), desk.open_count()), ([], liars + worker + 1))
            self.assertEqual(desk.tell(3, CLASS, RIGHT), "taken")
            late = [60 - worker for worker in range(liars)][::-1]
            self.assertEqual((desk.named(), desk.open_count()), (late, 0))
            self.assertEqual(desk.tell(20, CLASS, QUIET), "wrong")
            self.assertEqual(desk.tell(60, CLASS, RIGHT), "known")
            self.assertEqual(desk.tell(60, CLASS, HIGH), "wrong")
            self.assertEqual(desk.named(), [20] + late)
            self.assertEqual(desk.kept(CLASS), RIGHT)

    def test_told_other(self):
        desk = Desk(latest_chain(), 2)
        desk.tell(1, CLASS, RIGHT)
        desk.tell(2, CLASS, HIGH)
        before = state_of(desk)
        for worker, deed in ((1, HIGH), (1, QUIET), (2, RIGHT), (2, QUIET)):
            for form in (deed, lists_of(deed)):
                with self.assertRaises(ToldOther):
                    desk.tell(worker, CLASS, form)
                self.assertEqual(state_of(desk), before)
        self.assertEqual(desk.tell(1, CLASS, RIGHT), "again")
        self.assertEqual(desk.tell(2, CLASS, HIGH), "again")
        # The refused deeds count for nothing: neither do they make a deed kept, nor is anybody named for them.
        self.assertEqual(desk.tell(3, CLASS, RIGHT), "told")
        self.assertEqual(desk.tell(4, CLASS, RIGHT), "taken")
        self.assertEqual(desk.named(), [2])

    def test_lists_and_tuples_tell_the_same(self):
        desk = Desk(three_chain(), 2)
        some_class = class_of(three_chain(), chain_start(three_chain()), THREE_INPUT)
        deed = deed_of(three_chain(), some_class)
        for worker, form in enumerate([lambda value: value, lists_of, lambda value: value]):
            given = [form(some_class), form(deed)]
            before = copy.deepcopy(given)
            self.assertEqual(desk.tell(worker, *given), "taken" if worker == 2 else "told")
            self.assertEqual(given, before)
        self.assertEqual(desk.tell(7, lists_of(some_class), tuple(deed)), "known")
        self.assertEqual(desk.kept(lists_of(some_class)), deed)
        self.assertEqual(desk.classes(), [some_class])
        self.assertFalse(holds_lists(desk.classes()[0]))
        self.assertFalse(any(holds_lists(done) for done in desk.kept(some_class)))

    def test_what_was_passed_is_copied(self):
        desk = Desk(latest_chain(), 1)
        some_class, deed = lists_of(CLASS), lists_of(RIGHT)
        desk.tell(0, some_class, deed)
        some_class[1][0][1] = 1
        deed[0][0][2][0][1] = "high"
        self.assertEqual(desk.tell(0, CLASS, RIGHT), "again")
        deed = lists_of(RIGHT)
        desk.tell(1, CLASS, deed)
        deed[0][0][2].clear()
        self.assertEqual(state_of(desk), ([CLASS], [RIGHT], 0, [], []))

    def test_errors_in_their_order(self):
        for liars in (0, 2):
            desk = Desk(latest_chain(), liars)
            desk.tell(1, CLASS, HIGH)
            desk.guess(LAST)
            before = state_of(desk)
            for worker in WRONG_WORKERS:
                for some_class, deed in ((CLASS, RIGHT), (None, RIGHT), (CLASS, None), (None, None)):
                    with self.assertRaises(InvalidWorker):
                        desk.tell(worker, some_class, deed)
            for some_class in WRONG_CLASSES:
                for deed in (RIGHT, None, []):
                    with self.subTest(shown(some_class)):
                        with self.assertRaises(InvalidClass):
                            desk.tell(1, some_class, deed)
            for deed in WRONG_DEEDS:
                # A worker who has told one already, and one who has not.
                for worker in (1, 2):
                    with self.subTest(shown(deed)):
                        with self.assertRaises(InvalidDeed):
                            desk.tell(worker, CLASS, deed)
            self.assertEqual(state_of(desk), before)

    def test_all_workers(self):
        desk = Desk(latest_chain(), 3)
        for worker in range(100):
            desk.tell(worker, OTHER, OTHER_DEED)
        self.assertEqual((desk.classes(), desk.open_count()), ([OTHER], 0))
        for worker in range(99, -1, -1):
            self.assertEqual(desk.tell(worker, OTHER, [((0, (), ()),)]), "wrong")
        self.assertEqual(desk.named(), list(range(100)))

    def test_as_many_liars_as_may_lie_never_get_a_deed_kept(self):
        chain = three_chain()
        some_class = class_of(chain, chain_start(chain), THREE_INPUT)
        deed = deed_of(chain, some_class)
        lie = changed(deed, (8, 0, 2), (("log", "seen", 0),))
        for liars in range(1, 4):
            desk = Desk(chain, liars)
            for turn in range(3):
                for worker in range(liars):
                    self.assertEqual(desk.tell(worker, some_class, lie), "again" if turn else "told")
            for worker in range(10, 10 + liars):
                self.assertEqual(desk.tell(worker, some_class, deed), "told")
            self.assertEqual(desk.tell(50, some_class, deed), "taken")
            self.assertEqual((desk.kept(some_class), desk.named()), (deed, list(range(liars))))


class KeptTest(unittest.TestCase):
    def test_the_order_in_which_deeds_were_kept(self):
        desk = Desk(latest_chain(), 1)
        desk.tell(0, CLASS, RIGHT)
        desk.tell(0, LAST, QUIET)
        desk.tell(0, OTHER, OTHER_DEED)
        for some_class, deed in ((OTHER, OTHER_DEED), (CLASS, RIGHT), (LAST, QUIET)):
            desk.tell(1, some_class, deed)
        self.assertEqual(desk.classes(), [OTHER, CLASS, LAST])
        self.assertEqual([desk.kept(some_class) for some_class in desk.classes()], [OTHER_DEED, RIGHT, QUIET])

    def test_wrong_classes(self):
        desk = Desk(latest_chain(), 0)
        desk.tell(0, CLASS, RIGHT)
        for some_class in WRONG_CLASSES:
            with self.subTest(shown(some_class)):
                with self.assertRaises(InvalidClass):
                    desk.kept(some_class)
        self.assertIsNone(desk.kept(OTHER))
        self.assertIsNone(desk.kept(lists_of(LAST)))

    def test_lists_that_were_returned_may_be_changed(self):
        desk = Desk(latest_chain(), 0)
        desk.tell(0, CLASS, RIGHT)
        desk.tell(1, CLASS, HIGH)
        desk.guess(OTHER)
        before = state_of(desk)
        told = [desk.classes(), desk.kept(CLASS), desk.named(), desk.guesses()]
        for value in told:
            self.assertIsInstance(value, list)
            value.clear()
        self.assertEqual(state_of(desk), before)
        kept, classes = desk.kept(CLASS), desk.classes()
        desk.tell(1, OTHER, OTHER_DEED)
        self.assertEqual((kept, classes), (RIGHT, [CLASS]))


class GuessTest(unittest.TestCase):
    def test_guesses_in_the_order_in_which_they_came(self):
        desk = Desk(latest_chain(), 0)
        for some_class in (LAST, lists_of(CLASS), LAST, OTHER, CLASS):
            self.assertIsNone(desk.guess(some_class))
        self.assertEqual(desk.guesses(), [LAST, CLASS, OTHER])
        self.assertFalse(any(holds_lists(some_class) for some_class in desk.guesses()))

    def test_a_guess_counts_until_a_deed_is_kept_for_it(self):
        desk = Desk(latest_chain(), 1)
        for some_class in (LAST, CLASS, OTHER):
            desk.guess(some_class)
        desk.tell(0, CLASS, RIGHT)
        self.assertEqual(desk.guesses(), [LAST, CLASS, OTHER])
        desk.tell(1, CLASS, RIGHT)
        self.assertEqual(desk.guesses(), [LAST, OTHER])
        desk.guess(CLASS)
        self.assertEqual(desk.guesses(), [LAST, OTHER])

    def test_a_class_with_a_kept_deed_is_no_guess(self):
        desk = Desk(latest_chain(), 0)
        desk.tell(0, CLASS, HIGH)
        self.assertIsNone(desk.guess(CLASS))
        self.assertEqual(desk.guesses(), [])

    def test_a_deed_that_an_edit_keeps_ends_a_guess(self):
        desk = Desk(latest_chain(), 0)
        document = Document(desk)
        document.put(0, [("put", 7), ("put", 3)])
        desk.tell(0, document.wanted(), deed_of(desk.chain, document.wanted()))
        for some_class in (LAST, CLASS, OTHER):
            desk.guess(some_class)
        document.cut(0, 1)
        self.assertEqual((desk.classes()[1:], desk.guesses()), ([OTHER, CLASS], [LAST]))

    def test_wrong_classes(self):
        desk = Desk(latest_chain(), 0)
        desk.guess(OTHER)
        for some_class in WRONG_CLASSES:
            with self.subTest(shown(some_class)):
                with self.assertRaises(InvalidClass):
                    desk.guess(some_class)
        self.assertEqual(desk.guesses(), [OTHER])

    def test_a_guess_that_was_passed_is_copied(self):
        desk = Desk(latest_chain(), 0)
        given = lists_of(CLASS)
        desk.guess(given)
        given[1][0][1] = 5
        self.assertEqual(desk.guesses(), [CLASS])


if __name__ == "__main__":
    unittest.main()
