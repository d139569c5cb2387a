import copy
import unittest

from piecetold.chains import Chain, chain_start, deed_from
from piecetold.classes import all_classes, class_of, deed_of, is_class, is_deed, served
from piecetold.desks import Desk
from piecetold.documents import Document
from piecetold.errors import InvalidBeginning, InvalidChain, InvalidClass, InvalidDeed, InvalidInput, TooMuch
from piecetold.programs import Program
from plain import plain_classes
from samples import THREE_DEED, THREE_INPUT, at_path, changed, greatest_parts, holds_lists, latest_chain, latest_parts
from samples import lists_of, paths_of, plain_deed, rules_by, shown, some_messages, three_chain

GREAT = 10 ** 5000

BEGINNING = ((1, (6,)), (2, (4, 8)), (1, ()))
MESSAGES = [("put", 7), ("take", 9)]
# Ranks worked out by hand: 4, 6, 7, 8 and 9 are 0 to 4; no message has 4, 6 and 8.
CLASS = (((1, (1,)), (2, (0, 3)), (1, ())), (("put", 2), ("take", 4)))
DEED = [
    ((1, (2,), (("link", "more", 2), ("link", "more", 2), ("link", "less", 1))), (2, (0, 3), ()), (1, (), ())),
    (
        (1, (2,), (("link", "same", 4),)),
        (0, (), (("out", "up", 4), ("out", "down", 0))),
        (1, (), (("end", "tick", 4), ("end", "tick", 4))),
    ),
]
SERVED = [
    ((1, (7,), (("link", "more", 7), ("link", "more", 7), ("link", "less", 6))), (2, (4, 8), ()), (1, (), ())),
    (
        (1, (7,), (("link", "same", 9),)),
        (0, (), (("out", "up", 9), ("out", "down", 4))),
        (1, (), (("end", "tick", 9), ("end", "tick", 9))),
    ),
]


def great_chain():
    """Three of the greatest programs."""
    programs = [Program(*greatest_parts(shift)) for shift in range(3)]
    return Chain(programs, ["zzzzzzzz", "zzzzzzzz"])


def states_chain(states):
    """A chain of one program with these states, which stays in the last one that it can reach."""
    def choose(state, name, position, candidates):
        target = max(at for at, many in enumerate(states) if many <= candidates)
        return target, tuple(range(states[target])), (("out", "x", 0),)

    return Chain([Program(("put", "take"), (("out", ("x",)),), states, rules_by(("put", "take"), states, choose))])


def others_than(part):
    """Values of other kinds, for a part of a class or a deed."""
    wrong = [True, False, None, "", "ab", "abc", -1, -GREAT, GREAT, (), ("x",), (None, None, None)]
    if isinstance(part, (list, tuple)):
        wrong = wrong + [0, 1, "put"]
    if isinstance(part, str):
        wrong = wrong + [0, 1, part + "x", part[1:]]
    return [value for value in wrong if isinstance(value, bool) or value != part]


class ClassOfTest(unittest.TestCase):
    def test_ranks_worked_out_by_hand(self):
        self.assertEqual(class_of(three_chain(), BEGINNING, MESSAGES), CLASS)
        start = chain_start(three_chain())
        self.assertEqual(class_of(three_chain(), start, THREE_INPUT), (start, (
            ("put", 4), ("put", 2), ("put", 2), ("take", 6), ("put", 5), ("take", 5), ("take", 0), ("put", 3),
            ("take", 1),
        )))
        self.assertEqual(class_of(latest_chain(), ((1, (-5,)),), [("put", -5)]), (((1, (0,)),), (("put", 0),)))
        self.assertEqual(class_of(latest_chain(), ((0, ()),), [("put", 3)] * 3), (((0, ()),), (("put", 0),) * 3))

    def test_the_same_integer_in_several_programs_is_one_rank(self):
        beginning = ((1, (8,)), (2, (4, 8)), (1, ()))
        self.assertEqual(class_of(three_chain(), beginning, [("take", 4), ("put", 5)]),
                         (((1, (2,)), (2, (0, 2)), (1, ())), (("take", 0), ("put", 1))))

    def test_indexes_of_states_stay_as_they_are(self):
        self.assertEqual(class_of(three_chain(), ((1, (70,)), (1, (60,)), (1, ())), [("put", 50)]),
                         (((1, (2,)), (1, (1,)), (1, ())), (("put", 0),)))

    def test_lists_are_taken_and_tuples_returned(self):
        beginning, messages = lists_of(BEGINNING), lists_of(MESSAGES)
        before = copy.deepcopy((beginning, messages))
        some_class = class_of(three_chain(), beginning, messages)
        self.assertEqual(some_class, CLASS)
        self.assertFalse(holds_lists(some_class))
        self.assertEqual((beginning, messages), before)

    def test_the_class_of_a_class_is_itself(self):
        self.assertEqual(class_of(three_chain(), *CLASS), CLASS)
        some_class = class_of(great_chain(), chain_start(great_chain()), some_messages(1, great_chain(), 40, GREAT))
        self.assertEqual(class_of(great_chain(), *some_class), some_class)

    def test_other_integers_in_the_same_order(self):
        for change in (lambda n: n - 50, lambda n: n ** 3, lambda n: n * GREAT, lambda n: GREAT - 1000 + 7 * n):
            beginning = tuple((state, tuple(change(kept) for kept in numbers)) for state, numbers in BEGINNING)
            messages = [(name, change(number)) for name, number in MESSAGES]
            self.assertEqual(class_of(three_chain(), beginning, messages), CLASS)
        self.assertNotEqual(class_of(three_chain(), BEGINNING, [("put", 8), ("take", 9)]), CLASS)

    def test_lengths(self):
        start = ((0, ()),)
        for many in (1, 40):
            messages = [("put", number) for number in range(-many, 0)]
            self.assertEqual(class_of(latest_chain(), start, messages),
                             (start, tuple(("put", rank) for rank in range(many))))
        for messages in ([], (), [("put", 1)] * 41, [("put", 1)] * 300):
            with self.assertRaises(InvalidInput):
                class_of(latest_chain(), start, messages)

    def test_wrong_beginnings_come_first(self):
        for beginning in ((), BEGINNING[:2], BEGINNING + BEGINNING[:1], ((1, ()),) + BEGINNING[1:], None, True, 5, "x",
                          ((2, (6,)),) + BEGINNING[1:], changed(BEGINNING, (1, 1), (8, 4)),
                          changed(BEGINNING, (0, 1, 0), True), changed(BEGINNING, (0, 0), True)):
            for messages in (MESSAGES, [], [("less", 1)], [("put", 1)] * 41, None):
                with self.subTest(shown((beginning, messages))):
                    with self.assertRaises(InvalidBeginning):
                        class_of(three_chain(), beginning, messages)

    def test_wrong_inputs(self):
        for messages in ([("less", 1)], MESSAGES + [("up", 1)], [("put",)], [("put", 1, 1)], [("put", True)], None,
                         True, False, "put", 1, GREAT, ["put"], [("put", None)], [(1, "put")], [None], [("put", "1")]):
            with self.subTest(shown(messages)):
                with self.assertRaises(InvalidInput):
                    class_of(three_chain(), BEGINNING, messages)


class IsClassTest(unittest.TestCase):
    def refuse(self, value, chain=None):
        with self.subTest(shown(value)):
            for form in (value, lists_of(value)):
                self.assertIs(is_class(chain or three_chain(), form), False)
                with self.assertRaises(InvalidClass):
                    deed_of(chain or three_chain(), form)

    def test_classes(self):
        start = (0, ())
        for value in (CLASS, ((start,) * 3, (("put", 0),)), ((start,) * 3, (("put", 0),) * 40),
                      ((start,) * 3, tuple(("take", rank) for rank in range(40)))):
            self.assertIs(is_class(three_chain(), value), True)
            self.assertIs(is_class(three_chain(), lists_of(value)), True)

    def test_a_value_is_not_changed(self):
        value = lists_of(CLASS)
        is_class(three_chain(), value)
        self.assertEqual(value, lists_of(CLASS))

    def test_gaps(self):
        for path in ((0, 0, 1, 0), (0, 1, 1, 0), (0, 1, 1, 1), (1, 0, 1), (1, 1, 1)):
            for other in (-1, 5, 6, 100, GREAT, -GREAT):
                self.refuse(changed(CLASS, path, other))
        self.refuse((BEGINNING, tuple(MESSAGES)))
        self.refuse((((1, (1,)), (2, (1, 3)), (1, ())), (("put", 2), ("take", 4))))
        self.refuse((((1, (0,)), (2, (0, 3)), (1, ())), (("put", 2), ("take", 4))))
        self.refuse((((0, ()),), (("put", 1),)), latest_chain())
        self.refuse((((0, ()),), (("put", -1), ("put", 0))), latest_chain())

    def test_integers_that_do_not_ascend(self):
        for kept in ((3, 0), (0, 0), (3, 3)):
            self.refuse(changed(CLASS, (0, 1, 1), kept))

    def test_states_and_numbers_of_kept_integers(self):
        for at, states in ((0, (-1, 0, 2, GREAT)), (1, (-1, 0, 1, 3)), (2, (-1, 2, GREAT))):
            for state in states:
                self.refuse(changed(CLASS, (0, at, 0), state))
        for kept in ((), (0,), (0, 1, 3)):
            self.refuse(changed(CLASS, (0, 1, 1), kept))

    def test_numbers_of_programs(self):
        self.refuse(((), CLASS[1]))
        self.refuse((CLASS[0][:1], (("put", 0),)))
        self.refuse((CLASS[0] + ((1, ()),), CLASS[1]))
        self.refuse((((0, ()), (0, ())), (("put", 0),)), latest_chain())

    def test_numbers_of_messages(self):
        self.refuse((((0, ()),), ()), latest_chain())
        self.refuse((((0, ()),), (("put", 0),) * 41), latest_chain())
        self.refuse((((0, ()),), tuple(("put", rank) for rank in range(41))), latest_chain())

    def test_names(self):
        for name in ("less", "up", "link", "", "Put", "putt"):
            self.refuse(changed(CLASS, (1, 1, 0), name))

    def test_a_part_of_another_kind_at_each_place(self):
        for path in paths_of(CLASS):
            for other in others_than(at_path(CLASS, path)):
                self.refuse(changed(CLASS, path, other))

    def test_true_and_false_in_the_place_of_ranks_and_states(self):
        self.refuse((((1, (0,)),), (("put", True),)), latest_chain())
        self.refuse((((1, (False,)),), (("put", 1),)), latest_chain())
        self.refuse((((True, (0,)),), (("put", 1),)), latest_chain())
        self.refuse((((False, ()),), (("put", 0),)), latest_chain())

    def test_values_that_are_no_pairs(self):
        for value in ((), (CLASS,), CLASS + ((),), CLASS[0], CLASS[1], (CLASS[1], CLASS[0]), "ab", [[[[[[]]]]]]):
            self.refuse(value)


class DeedOfTest(unittest.TestCase):
    def test_a_deed_worked_out_by_hand(self):
        for some_class in (CLASS, lists_of(CLASS)):
            deed = deed_of(three_chain(), some_class)
            self.assertEqual(deed, DEED)
            self.assertIsInstance(deed, list)
            self.assertFalse(any(holds_lists(done) for done in deed))

    def test_served_to_the_beginning_and_the_input(self):
        for given in ((BEGINNING, MESSAGES, DEED), lists_of((BEGINNING, MESSAGES, DEED))):
            before = copy.deepcopy(given)
            told = served(three_chain(), *given)
            self.assertEqual(told, SERVED)
            self.assertEqual(told, deed_from(three_chain(), BEGINNING, MESSAGES))
            self.assertIsInstance(told, list)
            self.assertFalse(any(holds_lists(done) for done in told))
            self.assertEqual(given, before)

    def test_links_that_carry_none_one_and_several_messages(self):
        chain, start = three_chain(), chain_start(three_chain())
        some_class = class_of(chain, start, THREE_INPUT)
        self.assertEqual(served(chain, start, THREE_INPUT, deed_of(chain, some_class)), THREE_DEED)

    def test_the_greatest_chain(self):
        chain = great_chain()
        beginning = chain_start(chain)
        for seed in range(6):
            messages = some_messages(seed, chain, 40, GREAT if seed == 0 else 10 + 10 ** seed)
            some_class = class_of(chain, beginning, messages)
            deed = served(chain, beginning, messages, deed_of(chain, some_class))
            self.assertEqual(deed, plain_deed(chain, beginning, messages))
            self.assertTrue(is_deed(chain, some_class, deed_of(chain, some_class)))
            beginning = tuple(part[:2] for part in deed[-1])

    def test_a_possible_deed_that_is_wrong_is_served_too(self):
        deed = [((1, (0,), (("out", "high", 1), ("out", "low", 0))),), ((0, (), ()),)]
        self.assertEqual(served(latest_chain(), ((0, ()),), [("put", 70), ("put", 30)], deed),
                         [((1, (30,), (("out", "high", 70), ("out", "low", 30))),), ((0, (), ()),)])

    def test_errors_of_served_in_their_order(self):
        chain = three_chain()
        for deed in (DEED, None, DEED[:1]):
            with self.assertRaises(InvalidBeginning):
                served(chain, BEGINNING[:2], [("less", 1)], deed)
            for messages in ([], [("put", 1)] * 41, [("less", 1), ("put", 2)], None):
                with self.assertRaises(InvalidInput):
                    served(chain, BEGINNING, messages, deed)
        for deed in (None, True, "x", 3, [], DEED[:1], DEED + DEED[:1], SERVED, changed(DEED, (0, 0, 1, 0), 5),
                     changed(DEED, (0, 2, 0), True)):
            with self.assertRaises(InvalidDeed):
                served(chain, BEGINNING, MESSAGES, deed)
        self.assertEqual(served(chain, BEGINNING, MESSAGES, changed(DEED, (1, 2, 2), ())),
                         changed(SERVED, (1, 2, 2), ()))


class IsDeedTest(unittest.TestCase):
    def accept(self, value, some_class=CLASS):
        for form in (value, lists_of(value), tuple(value)):
            self.assertIs(is_deed(three_chain(), some_class, form), True)
            self.assertIs(is_deed(three_chain(), lists_of(some_class), form), True)

    def refuse(self, value, some_class=CLASS):
        with self.subTest(shown(value)):
            for form in (value, lists_of(value)):
                self.assertIs(is_deed(three_chain(), some_class, form), False)

    def test_the_deed(self):
        self.accept(DEED)
        deed = lists_of(DEED)
        is_deed(three_chain(), CLASS, deed)
        self.assertEqual(deed, lists_of(DEED))

    def test_outputs_put_in_left_out_and_exchanged(self):
        self.accept(changed(DEED, (0, 1, 2), (("out", "up", 0),)))
        self.accept(changed(DEED, (0, 0, 2), ()))
        self.accept(changed(DEED, (0, 0, 2, 1), ("log", "seen", 0)))
        self.accept(changed(DEED, (1, 1, 2), (("out", "down", 0), ("out", "up", 4))))

    def test_other_states_and_kept_integers(self):
        self.accept(changed(DEED, (0, 0, 1), (4,)))
        self.accept(changed(changed(DEED, (0, 0, 0), 0), (0, 0, 1), ()))
        self.accept(changed(DEED, (0, 1, 1), (3, 4)))
        self.accept(changed(DEED, (0, 2, 0), 0))

    def test_as_many_outputs_as_are_possible(self):
        for program, many, output in ((0, 3, ("log", "seen", 4)), (1, 9, ("out", "up", 0)), (2, 27, ("end", "tick", 2))):
            for at in range(2):
                self.accept(changed(DEED, (at, program, 2), (output,) * many))
                self.refuse(changed(DEED, (at, program, 2), (output,) * (many + 1)))
                self.refuse(changed(DEED, (at, program, 2), (output,) * 82))

    def test_channels_and_signals_of_others(self):
        for program, wrong in enumerate([
            (("out", "up", 0), ("log", "more", 0), ("link", "seen", 0), ("end", "tick", 0), ("link", "put", 0)),
            (("link", "less", 0), ("out", "tick", 0), ("end", "tick", 0), ("out", "", 0), ("", "up", 0)),
            (("out", "up", 0), ("end", "up", 0), ("tick", "end", 0), ("end", "tick", 0, 0), ("end", "tick")),
        ]):
            for output in wrong:
                self.refuse(changed(DEED, (1, program, 2), (output,)))

    def test_integers_that_are_no_ranks(self):
        for path in paths_of(DEED):
            part = at_path(DEED, path)
            # Indexes of states are the first of three parts.
            if isinstance(part, int) and not (len(path) == 3 and path[2] == 0):
                for other in (-1, 5, GREAT, -GREAT, True, False, None, "1", (1,)):
                    self.refuse(changed(DEED, path, other))

    def test_fewer_ranks(self):
        some_class = (((0, ()),) * 3, (("put", 1), ("take", 0)))
        deed = [((1, (1,), (("log", "seen", 1),)), (0, (), ()), (0, (), ())), ((1, (0,), ()), (2, (0, 1), ()), (0, (), ()))]
        self.accept(deed, some_class)
        self.refuse(changed(deed, (0, 0, 1), (2,)), some_class)
        self.refuse(changed(deed, (0, 0, 2, 0, 2), 2), some_class)
        self.refuse(changed(deed, (1, 1, 1), (0, 2)), some_class)

    def test_numbers_of_steps_programs_and_kept_integers(self):
        for value in ([], DEED[:1], DEED + DEED[:1], [(), ()], [DEED[0], ()], [DEED[0][:2], DEED[1]],
                      [DEED[0] + DEED[0][:1], DEED[1]], [DEED[0][::-1], DEED[1]]):
            self.refuse(value)
        for at in range(2):
            for program in range(3):
                part = DEED[at][program]
                for other in (part[:1], part[:2], part + ((),), part + part, part[1:], part[::-1]):
                    self.refuse(changed(DEED, (at, program), other))
        for kept in ((), (0, 1), (0, 1, 2)):
            self.refuse(changed(DEED, (0, 0, 1), kept))
        for kept in ((), (0,), (0, 1, 2), (1, 0), (1, 1)):
            self.refuse(changed(DEED, (0, 1, 1), kept))
        for state in (-1, 2, GREAT, 0):
            self.refuse(changed(DEED, (0, 0, 0), state))

    def test_a_part_of_another_kind_at_each_place(self):
        for path in paths_of(DEED):
            part = at_path(DEED, path)
            for other in others_than(part):
                # No outputs at all are possible everywhere.
                if not (other == () and len(path) == 3 and path[2] == 2):
                    self.refuse(changed(DEED, path, other))


class AllClassesTest(unittest.TestCase):
    def test_a_list_worked_out_by_hand(self):
        messages = [("put", 7), ("put", 3), ("put", 7)]
        expected = [
            (((0, ()),), (("put", 1), ("put", 0), ("put", 1))),
            (((1, (0,)),), (("put", 2), ("put", 1), ("put", 2))),
            (((1, (0,)),), (("put", 1), ("put", 0), ("put", 1))),
            (((1, (1,)),), (("put", 2), ("put", 0), ("put", 2))),
            (((1, (1,)),), (("put", 1), ("put", 0), ("put", 1))),
            (((1, (2,)),), (("put", 1), ("put", 0), ("put", 1))),
        ]
        for form in (messages, tuple(messages), lists_of(messages)):
            before = copy.deepcopy(form)
            found = all_classes(latest_chain(), form)
            self.assertEqual(found, expected)
            self.assertIsInstance(found, list)
            self.assertFalse(any(holds_lists(some_class) for some_class in found))
            self.assertEqual(form, before)

    def test_two_kept_integers_worked_out_by_hand(self):
        chain = states_chain((0, 2, 0))
        self.assertEqual(all_classes(chain, [("take", -4)]), [
            (((0, ()),), (("take", 0),)),
            (((1, (0, 1)),), (("take", 2),)),
            (((1, (0, 1)),), (("take", 1),)),
            (((1, (0, 2)),), (("take", 1),)),
            (((1, (0, 1)),), (("take", 0),)),
            (((1, (1, 2)),), (("take", 0),)),
            (((2, ()),), (("take", 0),)),
        ])

    def test_the_numbers(self):
        table = {0: [1, 1, 1, 1, 1], 1: [3, 5, 7, 9, 11], 2: [5, 13, 25, 41, 61], 3: [7, 25, 63, 129, 231],
                 4: [9, 41, 129, 321]}
        for kept, numbers in table.items():
            for others, number in enumerate(numbers, 1):
                chain = states_chain((0, kept))
                found = all_classes(chain, [("put", 5 * k) for k in range(others)] + [("take", 0)])
                self.assertEqual(len(found), 1 + number)
                self.assertTrue(all(is_class(chain, some_class) for some_class in found))
                texts = [repr(some_class) for some_class in found]
                self.assertEqual(len(set(texts)), len(texts))

    def test_against_a_search_through_all_tuples(self):
        for states in ((0,), (0, 1, 1), (0, 3, 0, 1), (0, 4), (0, 2, 2)):
            for numbers in ((0,), (4, 4), (GREAT, -GREAT), (3, 1, 2), (2, 0, 2, 1)):
                messages = [("put", number) for number in numbers]
                expected = plain_classes(states, messages)
                if len(expected) <= 500:
                    self.assertEqual(all_classes(states_chain(states), messages), expected)

    def test_500_and_more(self):
        self.assertEqual(len(all_classes(states_chain((0, 0, 0) + (1,) * 7), [("put", k) for k in range(35)])), 500)
        three = [("put", 1), ("put", 2), ("take", 3)]
        self.assertEqual(len(all_classes(states_chain((0, 0, 0, 2, 2, 3, 3, 3, 4, 4)), three)), 500)
        for states, many in (((0, 0, 0) + (1,) * 7, 36), ((0,) + (1,) * 9, 35), ((0, 0, 1, 2, 2, 3, 3, 3, 4, 4), 3),
                             ((0, 4), 40), ((0,) + (4,) * 9, 40), ((0, 3), 7), ((0, 2), 16), ((0, 4), 6),
                             # 1 + 9 + 41 + 129 + 321 are just one more than 500.
                             ((0, 1, 2, 3, 4), 4), ((0, 4, 3, 2, 1), 4)):
            with self.subTest((states, many)):
                with self.assertRaises(TooMuch):
                    all_classes(states_chain(states), [("put", k) for k in range(many)])
        self.assertEqual(len(all_classes(states_chain((0, 2)), [("put", k) for k in range(15)])), 482)
        self.assertEqual(len(all_classes(states_chain((0, 1)), [("put", k) for k in range(40)])), 82)
        self.assertEqual(len(all_classes(states_chain((0, 0)), [("put", 5)] * 40)), 2)

    def test_errors_in_their_order(self):
        two = Chain([Program(*latest_parts())] + [Program(("low", "high"), (("end", ("x",)),), (0,), rules_by(
            ("low", "high"), (0,), lambda *_: (0, (), ())))], ("out",))
        for chain in (two, three_chain(), great_chain(), None, True, "x", 5):
            for messages in ([("put", 1)], [], [("less", 1)], None, [("put", k) for k in range(40)]):
                with self.assertRaises(InvalidChain):
                    all_classes(chain, messages)
        chain = states_chain((0,) + (4,) * 9)
        most = [("put", k) for k in range(40)]
        for messages in ([], most + [("put", 1)], changed(most, (39, 0), "less"), changed(most, (1, 1), True), None,
                         True, "put", 7):
            with self.assertRaises(InvalidInput):
                all_classes(chain, messages)
        with self.assertRaises(TooMuch):
            all_classes(chain, most)

    def test_the_deeds_of_all_make_a_piece_known_behind_any_pieces(self):
        for states in ((0, 1), (0, 2, 1), (0, 1, 3)):
            chain = states_chain(states)
            messages = [("put", 30), ("take", 20), ("put", 30)]
            desk = Desk(chain, 0)
            for some_class in all_classes(chain, messages):
                self.assertEqual(desk.tell(0, some_class, deed_of(chain, some_class)), "taken")
            for seed in range(20):
                document = Document(desk)
                document.put(0, some_messages(seed, chain, seed % 7, 60))
                if document.wanted() is not None:
                    desk.tell(1, document.wanted(), deed_of(chain, document.wanted()))
                document.put(1, messages)
                self.assertEqual(document.known()[0], 2)
                document.put(1, [])
                document.change(1, lists_of(messages))
                self.assertEqual((document.known()[0], document.wanted()), (3, None))


if __name__ == "__main__":
    unittest.main()
