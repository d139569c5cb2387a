import copy
import random
import unittest

from piecetold.chains import Chain, after_deed, chain_start, chain_step, deed_from, names_of, written
from piecetold.errors import InvalidBeginning, InvalidChain, InvalidInput
from piecetold.programs import Program
from samples import THREE_DEED, THREE_INPUT, at_path, changed, first_program, greatest_parts, holds_lists
from samples import latest_parts, lists_of, paths_of, plain_deed, rules_by, second_program, small_parts
from samples import shown, some_chain, some_messages, third_program, three_chain


def quiet_program(names, channels):
    """A program that writes nothing."""
    return Program(names, channels, (0,), rules_by(names, (0,), lambda *_: (0, (), ())))


class RightChainsTest(unittest.TestCase):
    def test_one_program(self):
        program = Program(*latest_parts())
        for chain in (Chain([program]), Chain((program,)), Chain([program], ()), Chain([program], [])):
            self.assertEqual(chain.links, ())
            self.assertIsInstance(chain.programs, tuple)
            self.assertEqual(len(chain.programs), 1)
            self.assertIs(chain.programs[0], program)

    def test_two_and_three_programs(self):
        programs = [first_program(), second_program(), third_program()]
        chain = Chain(programs[:2], ["link"])
        self.assertEqual((chain.programs, chain.links), (tuple(programs[:2]), ("link",)))
        chain = Chain(programs, ["link", "out"])
        self.assertEqual((chain.programs, chain.links), (tuple(programs), ("link", "out")))

    def test_the_same_program_several_times(self):
        program = Program(*greatest_parts())
        self.assertEqual(Chain((program,) * 3, ("zzzzzzzz",) * 2).programs, (program,) * 3)

    def test_the_link_may_be_the_second_channel(self):
        first = quiet_program(("a",), (("log", ("x",)), ("out", ("b", "c"))))
        second = quiet_program(("b", "c"), (("end", ("x",)),))
        self.assertEqual(Chain([first, second], ["out"]).links, ("out",))
        with self.assertRaises(InvalidChain):
            Chain([first, second], ["log"])

    def test_lists_are_copied_and_stay_as_they_were(self):
        programs, links = [first_program(), second_program()], ["link"]
        kept = list(programs)
        chain = Chain(programs, links)
        self.assertEqual((programs, links), (kept, ["link"]))
        programs.pop()
        links.append("out")
        self.assertEqual((chain.programs, chain.links), (tuple(kept), ("link",)))

    def test_names_and_start(self):
        self.assertEqual(names_of(three_chain()), ("put", "take"))
        self.assertIsInstance(names_of(three_chain()), tuple)
        self.assertEqual(names_of(Chain([Program(*lists_of(small_parts()))])), ("put", "take"))
        self.assertEqual(chain_start(three_chain()), ((0, ()), (0, ()), (0, ())))
        self.assertEqual(chain_start(Chain([first_program()])), ((0, ()),))


class WrongChainsTest(unittest.TestCase):
    def refuse(self, *arguments):
        with self.subTest(shown(arguments)):
            with self.assertRaises(InvalidChain):
                Chain(*arguments)

    def test_numbers_of_programs(self):
        great = Program(*greatest_parts())
        self.refuse(())
        self.refuse([])
        self.refuse((), ("zzzzzzzz",))
        self.refuse((great,) * 4, ("zzzzzzzz",) * 3)
        self.refuse((great,) * 5, ("zzzzzzzz",) * 4)

    def test_numbers_of_links(self):
        programs = [first_program(), second_program(), third_program()]
        self.refuse(programs)
        for links in ((), ("link",), ("out",), ("link", "out", "end"), ("link", "out", "out")):
            self.refuse(programs, links)
        self.refuse(programs[:2])
        self.refuse(programs[:2], ("link", "out"))
        self.refuse(programs[:2], ("link", "link"))
        self.refuse(programs[:1], ("link",))
        self.refuse(programs[:1], ("log",))

    def test_links_that_are_no_channels_of_their_program(self):
        programs = [first_program(), second_program(), third_program()]
        for link in ("log", "out", "end", "less", "put", "none", "", "Link", "lin"):
            self.refuse(programs[:2], (link,))
            self.refuse(programs, (link, "out"))
        for link in ("link", "log", "up", ""):
            self.refuse(programs, ("link", link))
        self.refuse(programs, ("out", "link"))
        self.refuse(programs[::-1], ("out", "link"))

    def test_signals_that_are_not_just_the_names(self):
        heard = ("a", "b", "c")
        last = quiet_program(heard, (("end", ("x",)),))
        for signals in (("b", "a", "c"), ("c", "b", "a"), ("a", "b"), ("b", "c"), ("a", "b", "c", "d"), ("d", "a", "b"),
                        ("a", "b", "d"), ("x",)):
            first = quiet_program(("put",), (("out", signals),))
            self.refuse([first, last], ("out",))
            before = quiet_program(("go",), (("on", ("put",)),))
            self.refuse([before, first, last], ("on", "out"))
        self.assertEqual(Chain([quiet_program(("put",), (("out", heard),)), last], ("out",)).links, ("out",))

    def test_values_of_other_kinds(self):
        first, second, third = first_program(), second_program(), third_program()
        for other in (True, False, None, "", "put", 0, 1, -1, 10 ** 5000, (), [], ("link",), ["link", "out"],
                      (first,), [second], latest_parts(), Program):
            self.refuse([other])
            self.refuse([other, second], ("link",))
            self.refuse([first, other], ("link",))
            self.refuse([first, other, third], ("link", "out"))
            self.refuse([first, second, other], ("link", "out"))
            self.refuse([first, second], (other,))
            self.refuse([first, second, third], (other, "out"))
            self.refuse([first, second, third], ["link", other])
        for other in (True, False, None, "", "link", "a", "ab", 0, 1, 2, 10 ** 5000, first):
            self.refuse(other)
            self.refuse(other, ("link",))
            self.refuse(other, other)
            self.refuse([first], other)
            self.refuse([first, second], other)
            self.refuse([first, second, third], other)


class StepsTest(unittest.TestCase):
    def test_a_run_worked_out_by_hand(self):
        chain = three_chain()
        reached = chain_start(chain)
        for message, expected in zip(THREE_INPUT, THREE_DEED):
            reached, done = chain_step(chain, reached, message)
            self.assertEqual(done, expected)
            self.assertEqual(reached, tuple(part[:2] for part in expected))

    def test_lists_give_tuples_and_stay_as_they_were(self):
        chain = three_chain()
        for at in range(1, len(THREE_INPUT)):
            beginning = lists_of([part[:2] for part in THREE_DEED[at - 1]])
            message = list(THREE_INPUT[at])
            before = copy.deepcopy((beginning, message))
            told = chain_step(chain, beginning, message)
            self.assertEqual(told, (tuple(part[:2] for part in THREE_DEED[at]), THREE_DEED[at]))
            self.assertFalse(holds_lists(told))
            self.assertEqual((beginning, message), before)

    def test_one_program(self):
        chain = Chain([Program(*latest_parts())])
        self.assertEqual(chain_step(chain, ((0, ()),), ("put", 7)), (((1, (7,)),), ((1, (7,), ()),)))
        self.assertEqual(chain_step(chain, ((1, (7,)),), ("put", 3)),
                         (((1, (3,)),), ((1, (3,), (("out", "low", 3),)),)))


class DeedsTest(unittest.TestCase):
    def test_a_run_worked_out_by_hand(self):
        chain = three_chain()
        for messages in (THREE_INPUT, tuple(THREE_INPUT), lists_of(THREE_INPUT)):
            before = copy.deepcopy(messages)
            deed = deed_from(chain, chain_start(chain), messages)
            self.assertEqual(deed, THREE_DEED)
            self.assertIsInstance(deed, list)
            self.assertFalse(any(holds_lists(done) for done in deed))
            self.assertEqual(messages, before)

    def test_no_messages(self):
        chain = three_chain()
        for messages in ([], ()):
            deed = deed_from(chain, chain_start(chain), messages)
            self.assertEqual(deed, [])
            self.assertIsInstance(deed, list)

    def test_parts_of_an_input(self):
        chain = three_chain()
        for at in range(1, len(THREE_INPUT) + 1):
            first = deed_from(chain, chain_start(chain), THREE_INPUT[:at])
            second = deed_from(chain, after_deed(first), THREE_INPUT[at:])
            self.assertEqual(first + second, THREE_DEED)

    def test_a_beginning_other_than_the_start(self):
        chain = three_chain()
        for beginning in (((1, (6,)), (2, (4, 8)), (1, ())), [[1, [6]], [2, [4, 8]], [1, []]]):
            before = copy.deepcopy(beginning)
            deed = deed_from(chain, beginning, [("put", 7), ("take", 9)])
            self.assertEqual(deed, [
                (
                    (1, (7,), (("link", "more", 7), ("link", "more", 7), ("link", "less", 6))),
                    (2, (4, 8), ()),
                    (1, (), ()),
                ),
                (
                    (1, (7,), (("link", "same", 9),)),
                    (0, (), (("out", "up", 9), ("out", "down", 4))),
                    (1, (), (("end", "tick", 9), ("end", "tick", 9))),
                ),
            ])
            self.assertEqual(beginning, before)

    def test_a_program_that_hears_nothing_stays_where_it_was(self):
        deed = deed_from(three_chain(), [[0, []], [1, [10 ** 40]], [1, []]], [["put", -3], ["take", -3]])
        self.assertEqual(deed, [
            ((1, (-3,), (("log", "seen", -3),)), (1, (10 ** 40,), ()), (1, (), ())),
            ((0, (), (("log", "seen", -3),)), (1, (10 ** 40,), ()), (1, (), ())),
        ])
        self.assertFalse(any(holds_lists(done) for done in deed))

    def test_after_deed(self):
        self.assertEqual(after_deed(THREE_DEED), ((0, ()), (2, (3, 9)), (0, ())))
        self.assertEqual(after_deed(THREE_DEED[:2]), ((1, (3,)), (2, (3, 5)), (0, ())))
        self.assertEqual(after_deed(tuple(THREE_DEED[:2])), ((1, (3,)), (2, (3, 5)), (0, ())))

    def test_after_deed_of_lists(self):
        deed = lists_of(THREE_DEED)
        self.assertEqual(after_deed(deed), ((0, ()), (2, (3, 9)), (0, ())))
        self.assertFalse(holds_lists(after_deed(deed)))
        self.assertEqual(deed, lists_of(THREE_DEED))

    def test_written(self):
        self.assertEqual(written(THREE_DEED, 0, "link"), [
            ("less", 3), ("more", 5), ("same", 3), ("same", 9), ("more", 8), ("more", 8), ("less", 3)
        ])
        self.assertEqual(written(THREE_DEED, 0, "log"), [("seen", 5), ("seen", 3), ("seen", 8), ("seen", 4)])
        self.assertEqual(written(THREE_DEED, 1, "out"), [
            ("down", 3), ("up", 5), ("up", 5), ("down", 3), ("down", 8), ("down", 3)
        ])
        self.assertEqual(written(THREE_DEED, 2, "end"), [("tick", 5)] * 2 + [("tick", 3)] * 4)
        self.assertEqual(written([], 1, "out"), [])
        self.assertEqual(written(THREE_DEED[:1], 1, "out"), [])

    def test_written_of_lists(self):
        deed = lists_of(THREE_DEED)
        for value in (deed, tuple(THREE_DEED)):
            messages = written(value, 0, "link")
            self.assertEqual(messages, written(THREE_DEED, 0, "link"))
            self.assertIsInstance(messages, list)
            self.assertFalse(any(holds_lists(message) for message in messages))
        self.assertEqual(deed, lists_of(THREE_DEED))

    def test_what_is_returned_is_not_changed_by_later_calls_or_by_callers(self):
        chain = three_chain()
        deed = deed_from(chain, chain_start(chain), THREE_INPUT)
        messages = written(deed, 0, "link")
        messages.clear()
        self.assertEqual(deed, THREE_DEED)
        again = deed_from(chain, chain_start(chain), THREE_INPUT)
        again.pop()
        self.assertEqual(deed, THREE_DEED)
        self.assertEqual(deed_from(chain, chain_start(chain), THREE_INPUT), THREE_DEED)

    def test_against_a_run_program_by_program(self):
        for seed in range(60):
            chain = some_chain(seed)
            messages = some_messages(seed + 1, chain, 25, 6)
            deed = deed_from(chain, chain_start(chain), messages)
            self.assertEqual(deed, plain_deed(chain, chain_start(chain), messages))
            at = random.Random(seed).randrange(1, 25)
            rest = deed_from(chain, after_deed(deed[:at]), messages[at:])
            self.assertEqual(rest, deed[at:])
            self.assertEqual(rest, plain_deed(chain, after_deed(deed[:at]), messages[at:]))

    def test_the_greatest_chain_and_long_inputs(self):
        program = Program(*greatest_parts())
        chain = Chain([program, Program(*greatest_parts(1)), Program(*greatest_parts(2))], ["zzzzzzzz", "zzzzzzzz"])
        messages = some_messages(1, chain, 3000, 10 ** 60)
        deed = deed_from(chain, chain_start(chain), messages)
        self.assertEqual(len(deed), 3000)
        self.assertEqual(deed[:60], plain_deed(chain, chain_start(chain), messages[:60]))
        self.assertEqual(deed[60:120], plain_deed(chain, after_deed(deed[:60]), messages[60:120]))
        self.assertEqual(max(len(done[2][2]) for done in deed), 27)


class WrongDeedsTest(unittest.TestCase):
    beginning = ((1, (6,)), (2, (4, 8)), (1, ()))
    messages = [("put", 7), ("take", 9)]

    def refuse_beginning(self, beginning, messages=None):
        with self.subTest(shown(beginning)):
            messages = self.messages if messages is None else messages
            for value in (beginning, lists_of(beginning)):
                with self.assertRaises(InvalidBeginning):
                    deed_from(three_chain(), value, messages)

    def refuse_input(self, messages):
        with self.subTest(shown(messages)):
            for value in (messages, lists_of(messages)):
                with self.assertRaises(InvalidInput):
                    deed_from(three_chain(), self.beginning, value)

    def test_beginnings_of_a_wrong_form(self):
        first, second, third = self.beginning
        for beginning in ((), (first,), (first, second), (first, second, third, third), (second, first, third), first,
                          ((), (), ()), (first, second, ()), (first, second, (1,)), (first, second, (1, (), ()))):
            self.refuse_beginning(beginning)
            self.refuse_beginning(beginning, [])

    def test_states_and_kept_integers(self):
        for state in (-1, 2, 3, 10 ** 30):
            self.refuse_beginning(changed(self.beginning, (0, 0), state))
            self.refuse_beginning(changed(self.beginning, (2, 0), state))
        self.refuse_beginning(changed(self.beginning, (2, 0), -2))
        for kept in ((), (6, 7), (6, 6)):
            self.refuse_beginning(changed(self.beginning, (0, 1), kept))
        for kept in ((), (4,), (4, 5, 8), (4, 4), (8, 4), (4, 8, 8)):
            self.refuse_beginning(changed(self.beginning, (1, 1), kept))
        self.refuse_beginning(changed(self.beginning, (2, 1), (0,)))

    def test_values_of_other_kinds_in_a_beginning(self):
        for path in paths_of(self.beginning):
            part = at_path(self.beginning, path)
            wrong = [True, False, None, "", "put", "ab", "abc", 10 ** 5000] if isinstance(part, tuple) else []
            wrong = wrong or [True, False, None, "", "1", "put", (), (1,)]
            for other in wrong:
                self.refuse_beginning(changed(self.beginning, path, other))

    def test_equal_to_true_and_false(self):
        self.refuse_beginning(((0, ()), (2, (0, True)), (0, ())))
        self.refuse_beginning(((0, ()), (2, (False, 1)), (0, ())))
        self.refuse_beginning(((False, ()), (0, ()), (0, ())))
        self.refuse_beginning(((1, (True,)), (0, ()), (0, ())))

    def test_names_that_the_chain_does_not_hear(self):
        for name in ("less", "up", "seen", "link", "", "Put", "putt", "pu"):
            for at in range(2):
                self.refuse_input(changed(self.messages, (at, 0), name))
        self.refuse_input(THREE_INPUT * 10 + [("less", 1)])

    def test_values_of_other_kinds_in_an_input(self):
        for path in paths_of(self.messages):
            part = at_path(self.messages, path)
            wrong = [True, False, None, ("put",), (1,), ("put", 1, 1)]
            if not isinstance(part, str):
                wrong = wrong + ["", "p", "put", "pt"]
            if not isinstance(part, int):
                wrong = wrong + [0, 1, -1, 10 ** 5000]
            if path:
                wrong = wrong + [()]
            for other in wrong:
                self.refuse_input(changed(self.messages, path, other))
        for message in (("put", 7, 7), ("put",), (7, "put"), ((), 7)):
            self.refuse_input([message])

    def test_messages_in_a_text(self):
        chain = Chain([quiet_program(("a", "b"), (("out", ("x",)),))])
        for messages in ("ab", ["a1"], [["a", "1"]], "a"):
            with self.assertRaises(InvalidInput):
                deed_from(chain, ((0, ()),), messages)

    def test_the_beginning_is_looked_at_first(self):
        for messages in (None, "put", [("less", 1)], [("put", True)], 5):
            self.refuse_beginning((), messages)
            self.refuse_beginning(changed(self.beginning, (1, 1), (8, 4)), messages)
            self.refuse_beginning(None, messages)
        self.refuse_input([("less", 1)])

    def test_nothing_is_changed_where_an_error_is_raised(self):
        chain = three_chain()
        beginning, messages = lists_of(self.beginning), [["put", 7], ["less", 3]]
        before = copy.deepcopy((beginning, messages))
        with self.assertRaises(InvalidInput):
            deed_from(chain, beginning, messages)
        self.assertEqual((beginning, messages), before)
        self.assertEqual(deed_from(chain, chain_start(chain), THREE_INPUT), THREE_DEED)


if __name__ == "__main__":
    unittest.main()
