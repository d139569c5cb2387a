import copy
import random
import unittest

from piecetold.errors import InvalidProgram
from piecetold.programs import Program, position_of, start, step
from samples import at_path, changed, greatest_parts, holds_lists, latest_parts, lists_of, paths_of
from samples import plain_program, plain_step, rules_by, shown, small_parts, some_chain, tuples_of

NAMES, CHANNELS, STATES, RULES = range(4)


def without_outputs(names, channels, states):
    """A right program, if its parts are right, whose rules stay in state 0 and write nothing."""
    return [names, channels, states, rules_by(names, states, lambda *_: (0, (), ()))]


class RightProgramsTest(unittest.TestCase):
    def check(self, parts):
        self.assertTrue(plain_program(*parts))
        program = Program(*parts)
        self.assertEqual(program.names, tuples_of(parts[NAMES]))
        self.assertEqual(program.channels, tuples_of(parts[CHANNELS]))
        self.assertEqual(program.states, tuples_of(parts[STATES]))
        order = list(program.names)
        rules = sorted(tuples_of(parts[RULES]), key=lambda rule: (rule[0], order.index(rule[1]), rule[2]))
        self.assertEqual(program.rules, tuple(rules))
        for value in (program.names, program.channels, program.states, program.rules):
            self.assertIsInstance(value, tuple)
            self.assertFalse(holds_lists(value))
        return program

    def test_samples(self):
        for parts in (latest_parts(), small_parts(), greatest_parts()):
            self.check(parts)

    def test_lists_at_every_depth_and_rules_in_other_orders(self):
        for parts in (latest_parts(), small_parts(), greatest_parts()):
            lists = lists_of(parts)
            lists[RULES].reverse()
            self.check(lists)
            random.Random(3).shuffle(lists[RULES])
            self.check(lists)

    def test_the_order_of_rules_is_that_of_the_names_not_of_the_letters(self):
        parts = small_parts()
        parts[NAMES] = ("take", "put")
        program = self.check(parts)
        self.assertEqual([rule[:3] for rule in program.rules[:3]], [(0, "take", 0), (0, "put", 0), (1, "take", 0)])

    def test_the_least_program(self):
        self.check([["a"], [["b", ["c"]]], [0], [[0, "a", 0, 0, [], []]]])

    def test_the_edges_that_are_allowed(self):
        words = ("a", "abcdefgh", "zyxwvuts", "z")
        self.check(without_outputs(words, (("put", words), ("out", words)), (0, 4, 0, 1, 2, 3, 4, 4, 4, 4)))
        # A channel may have a name that the program hears, and the channels may have the same signals.
        self.check(without_outputs(("out",), (("out", ("out",)), ("b", ("out",))), (0,)))

    def test_three_equal_outputs(self):
        rule = (0, "a", 0, 0, (), (("b", "c", 0), ("b", "c", 0), ("b", "c", 0)))
        self.check([("a",), (("b", ("c",)),), (0,), (rule,)])

    def test_arguments_stay_as_they_were_and_are_copied(self):
        lists = lists_of(small_parts())
        lists[RULES].reverse()
        before = copy.deepcopy(lists)
        program = Program(*lists)
        self.assertEqual(lists, before)
        names, channels, states, rules = program.names, program.channels, program.states, program.rules
        lists[NAMES][0] = "other"
        lists[CHANNELS][0][1][0] = "other"
        lists[CHANNELS][1][0] = "other"
        lists[STATES][1] = 4
        for rule in lists[RULES]:
            rule[3] = 9
            rule[4].append(7)
            for output in rule[5]:
                output[2] = 8
            rule[5].append(("x", "y", 0))
        lists[RULES].clear()
        self.assertEqual((program.names, program.channels, program.states, program.rules),
                         (names, channels, states, rules))
        self.assertEqual(program.rules, Program(*before).rules)
        self.assertEqual(step(program, (1, (5,)), ("put", 9)), step(Program(*before), (1, (5,)), ("put", 9)))


class WrongProgramsTest(unittest.TestCase):
    def refuse(self, parts, why=""):
        with self.subTest(shown(why)):
            self.assertFalse(plain_program(*parts))
            with self.assertRaises(InvalidProgram):
                Program(*parts)
            with self.assertRaises(InvalidProgram):
                Program(*lists_of(parts))

    def refuse_at(self, path, other, why=""):
        self.refuse(changed(small_parts(), path, other), (why, path, other))

    def test_numbers_outside_the_limits(self):
        channels, states = (("out", ("low",)),), (0,)
        for names in ((), ("a", "b", "c", "d", "e")):
            self.refuse(without_outputs(names, channels, states), names)
        for wrong in ((), (("a", ("x",)), ("b", ("x",)), ("c", ("x",)))):
            self.refuse(without_outputs(("put",), wrong, states), wrong)
        for signals in ((), ("a", "b", "c", "d", "e")):
            self.refuse(without_outputs(("put",), (("out", signals),), states), signals)
            self.refuse(without_outputs(("put",), (("log", ("x",)), ("out", signals)), states), signals)
        for wrong in ((), (0,) * 11):
            self.refuse(without_outputs(("put",), channels, wrong), wrong)

    def test_states_that_keep_too_little_or_too_much(self):
        channels = (("out", ("low",)),)
        for states in ((0, -1), (0, 5), (0, 0, 5, 0), (1,), (1, 0), (4,), (0, 10 ** 30)):
            rules = [rule for rule in rules_by(("put",), [min(many, 9) for many in states],
                                               lambda *_: (0, (), ()))]
            if states[0]:
                rules = rules_by(("put",), states, lambda *_: (0, tuple(range(states[0])), ()))
            self.refuse([("put",), channels, states, rules], states)

    def test_words_that_are_none(self):
        for word in ("", "abcdefghi", "Put", "pUt", "put1", "a b", " ", "a-b", "a_b", "\u00e4", "a\n", "put\n", "1"):
            self.refuse(without_outputs((word,), (("out", ("low",)),), (0,)), word)
            self.refuse(without_outputs(("put", word), (("out", ("low",)),), (0,)), word)
            self.refuse(without_outputs(("put",), ((word, ("low",)),), (0,)), word)
            self.refuse(without_outputs(("put",), (("out", ("low", word)),), (0,)), word)

    def test_words_that_stand_twice(self):
        self.refuse([("a", "a"), (("out", ("low",)),), (0,), [(0, "a", 0, 0, (), ())]])
        self.refuse([("a", "a"), (("out", ("low",)),), (0,), [(0, "a", 0, 0, (), ())] * 2])
        self.refuse(without_outputs(("a",), (("out", ("low",)), ("out", ("high",))), (0,)))
        self.refuse(without_outputs(("a",), (("out", ("low", "high", "low")),), (0,)))

    def test_rules_that_are_missing_or_stand_twice(self):
        parts = small_parts()
        self.refuse(parts[:RULES] + [()])
        for at, rule in enumerate(parts[RULES]):
            rest = parts[RULES][:at] + parts[RULES][at + 1:]
            self.refuse(parts[:RULES] + [rest], ("missing", at))
            self.refuse(parts[:RULES] + [parts[RULES] + (rule,)], ("twice", at))
            other = parts[RULES][at - 1]
            self.refuse(parts[:RULES] + [rest + (other,)], ("in the place of another", at))
            second = rule[:5] + ((("log", "lost", 0),),)
            self.refuse(parts[:RULES] + [parts[RULES] + (second,)], ("another for the same", at))

    def test_rules_with_wrong_heads_or_targets(self):
        parts = small_parts()
        for at, rule in enumerate(parts[RULES]):
            for state in (-1, 4, 99):
                self.refuse_at((RULES, at, 0), state)
                self.refuse_at((RULES, at, 3), state)
            for name in ("out", "low", "", "Put", "giv"):
                self.refuse_at((RULES, at, 1), name)
            for position in (-1, 2 * parts[STATES][rule[0]] + 1, 9, 10 ** 30):
                self.refuse_at((RULES, at, 2), position)

    def test_rules_too_many_for_a_strange_state_name_or_position(self):
        parts = small_parts()
        for head in ((4, "put", 0), (-1, "put", 0), (0, "giv", 0), (0, "put", 1), (1, "put", 3), (2, "take", 5)):
            self.refuse(parts[:RULES] + [parts[RULES] + (head + (0, (), ()),)], head)

    def test_sources(self):
        parts = small_parts()
        tried = 0
        for at, rule in enumerate(parts[RULES]):
            many = parts[STATES][rule[0]]
            candidates = many if rule[2] % 2 else many + 1
            wrong = [rule[4] + (candidates - 1,), rule[4] + (99,), rule[4][:-1] + (candidates,), rule[4][:-1] + (-1,)]
            wrong = wrong + [rule[4][::-1], rule[4][:1] * len(rule[4]), rule[4][1:], rule[4][:-1]]
            for sources in wrong:
                if sources != rule[4]:
                    tried += 1
                    self.refuse_at((RULES, at, 4), sources)
        self.assertGreater(tried, 50)

    def test_more_sources_than_candidates(self):
        # From a kept integer that is met again there is one candidate, so nothing that keeps two can follow.
        parts = small_parts()
        at = [rule[:3] for rule in parts[RULES]].index((1, "put", 1))
        for sources in ((0, 1), (0,), (0, 0), ()):
            rules = list(parts[RULES])
            rules[at] = (1, "put", 1, 2, sources, ())
            self.refuse(parts[:RULES] + [rules], sources)

    def test_outputs(self):
        parts = small_parts()
        for at, rule in enumerate(parts[RULES]):
            many = parts[STATES][rule[0]]
            candidates = many if rule[2] % 2 else many + 1
            wrong = [(("out", "low", 0),) * 4, (("put", "low", 0),), (("Out", "low", 0),), (("low", "out", 0),)]
            wrong = wrong + [(("log", "low", 0),), (("out", "seen", 0),), (("out", "none", 0),), (("out", "out", 0),)]
            wrong = wrong + [(("out", "low", candidates),), (("out", "low", -1),), (("log", "seen", 10 ** 30),)]
            wrong = wrong + [((),), (("out",),), (("out", "low"),), (("out", "low", 0, 0),), ("out", "low", 0)]
            for outputs in wrong:
                self.refuse_at((RULES, at, 5), outputs)

    def test_tuples_of_a_wrong_length(self):
        parts = small_parts()
        for at, pair in enumerate(parts[CHANNELS]):
            for wrong in ((), pair[:1], pair + (0,), pair + pair, pair[1:], pair[0]):
                self.refuse_at((CHANNELS, at), wrong)
        for at, rule in enumerate(parts[RULES]):
            for wrong in ((), rule[:3], rule[:5], rule + ((),), rule[1:]):
                self.refuse_at((RULES, at), wrong)

    def test_values_of_other_kinds_in_the_place_of_each_part(self):
        parts = small_parts()
        for path in paths_of(parts)[1:]:
            part = at_path(parts, path)
            wrong = [True, False, None]
            if not isinstance(part, str):
                wrong = wrong + ["", "put", "out", "low", "ab", "abcdef"]
            if not isinstance(part, int):
                wrong = wrong + [0, 1, -1, 10 ** 5000]
            if not isinstance(part, tuple):
                wrong = wrong + [(), (part,), ((),)]
            for other in wrong:
                self.refuse_at(path, other)

    def test_true_and_false_beside_equal_integers(self):
        # 1 == True and 0 == False for Python, not for the document.
        parts = small_parts()
        for path in paths_of(parts):
            if at_path(parts, path) in (0, 1) and isinstance(at_path(parts, path), int):
                self.refuse_at(path, at_path(parts, path) == 1)

    def test_parts_changed_by_chance(self):
        source = random.Random(11)
        right = wrong = 0
        for _ in range(6000):
            parts = latest_parts() if source.randrange(2) else small_parts()
            other = self.changed_by_chance(source, parts)
            if plain_program(*other):
                right += 1
                self.assertEqual(Program(*other).states, tuples_of(other[STATES]))
            else:
                wrong += 1
                with self.assertRaises(InvalidProgram):
                    Program(*other)
        self.assertGreater(right, 300)
        self.assertGreater(wrong, 3000)

    def changed_by_chance(self, source, parts):
        path = source.choice(paths_of(parts)[1:])
        part = at_path(parts, path)
        pool = [True, None, "", "put", "take", "seen", "log", "Z", -1, 0, 1, 2, 3, 5, 10 ** 40, (), [], [0], (0, 1)]
        kind = source.randrange(4)
        if kind == 0 or not isinstance(part, (list, tuple)) or not part:
            return changed(parts, path, source.choice(pool))
        items = list(part)
        if kind == 1:
            items.pop(source.randrange(len(items)))
        elif kind == 2:
            items.insert(source.randrange(len(items)), source.choice(items))
        else:
            source.shuffle(items)
        return changed(parts, path, items)


class PositionTest(unittest.TestCase):
    def test_each_position(self):
        for many in range(5):
            kept = tuple(10 * (at + 1) for at in range(many))
            for position in range(2 * many + 1):
                integer = 5 * (position + 1)
                for row in (kept, list(kept)):
                    self.assertEqual(position_of(integer, row), position, (integer, kept))

    def test_nothing_kept(self):
        for integer in (-3, 0, 7):
            self.assertEqual(position_of(integer, ()), 0)

    def test_neighbours(self):
        found = [position_of(integer, (3, 4, 6)) for integer in range(2, 8)]
        self.assertEqual(found, [0, 1, 3, 4, 5, 6])

    def test_great_and_negative_integers(self):
        great = 10 ** 5000
        kept = [-great, 0, great]
        found = [position_of(integer, kept) for integer in (-great - 1, -great, -1, 0, 1, great, great + 1)]
        self.assertEqual(found, [0, 1, 2, 3, 4, 5, 6])
        self.assertEqual(kept, [-great, 0, great])


class StepTest(unittest.TestCase):
    def test_start(self):
        for parts in (latest_parts(), small_parts(), greatest_parts()):
            self.assertEqual(start(Program(*parts)), (0, ()))

    def test_the_program_of_the_example(self):
        program = Program(*latest_parts())
        self.assertEqual(step(program, (0, ()), ("put", 7)), ((1, (7,)), ()))
        self.assertEqual(step(program, (1, (7,)), ("put", 3)), ((1, (3,)), (("out", "low", 3),)))
        self.assertEqual(step(program, (1, (7,)), ("put", 7)), ((1, (7,)), ()))
        self.assertEqual(step(program, (1, (7,)), ("put", 8)), ((1, (8,)), (("out", "high", 8),)))

    def four_program(self):
        """Keeps up to four integers; in state 4 it writes, for each position, the candidates in a chosen order."""
        states = (0, 1, 2, 3, 4)

        def choose(state, name, position, candidates):
            target = min(candidates, 4)
            sources = tuple(range(candidates - target, candidates))
            outputs = (("b", "y", candidates - 1), ("a", "x", 0), ("b", "z", position // 2 if position % 2 == 0 else 1))
            return target, sources, outputs if state == 4 else ()

        return Program(("put",), (("a", ("x",)), ("b", ("y", "z"))), states,
                       rules_by(("put",), states, choose))

    def test_each_position_with_what_is_written_in_the_order_of_the_rule(self):
        program = self.four_program()
        kept = (10, 20, 30, 40)
        between = {5: (10, 20, 30, 40), 15: (15, 20, 30, 40), 25: (20, 25, 30, 40), 35: (20, 30, 35, 40),
                   45: (20, 30, 40, 45)}
        for integer, keeps in between.items():
            wrote = (("b", "y", max(integer, 40)), ("a", "x", min(integer, 10)), ("b", "z", integer))
            self.assertEqual(step(program, (4, kept), ("put", integer)), ((4, keeps), wrote))
        for integer in kept:
            wrote = (("b", "y", 40), ("a", "x", 10), ("b", "z", 20))
            self.assertEqual(step(program, (4, kept), ("put", integer)), ((4, kept), wrote))

    def test_from_nothing_to_four(self):
        program = self.four_program()
        reached = start(program)
        seen = []
        for integer in (5, 3, 5, 9, 3, 4, -1):
            reached, wrote = step(program, reached, ("put", integer))
            seen.append((reached, len(wrote)))
        self.assertEqual(seen, [((1, (5,)), 0), ((2, (3, 5)), 0), ((2, (3, 5)), 0), ((3, (3, 5, 9)), 0),
                                ((3, (3, 5, 9)), 0), ((4, (3, 4, 5, 9)), 0), ((4, (3, 4, 5, 9)), 3)])

    def test_lists_give_tuples_and_stay_as_they_were(self):
        program = Program(*lists_of(latest_parts()))
        configuration, message = [1, [7]], ["put", 3]
        self.assertEqual(step(program, configuration, message), ((1, (3,)), (("out", "low", 3),)))
        self.assertFalse(holds_lists(step(program, configuration, message)))
        self.assertEqual((configuration, message), ([1, [7]], ["put", 3]))

    def test_what_is_returned_is_not_changed_by_later_calls(self):
        program = self.four_program()
        first = step(program, (4, (1, 3, 5, 7)), ("put", 4))
        again = copy.deepcopy(first)
        for integer in range(20):
            step(program, first[0], ("put", integer))
        self.assertEqual(first, again)

    def test_great_integers(self):
        program = Program(*latest_parts())
        great = 10 ** 5000
        self.assertEqual(step(program, (1, (great,)), ("put", great + 1)),
                         ((1, (great + 1,)), (("out", "high", great + 1),)))
        self.assertEqual(step(program, (1, (great,)), ("put", -great)), ((1, (-great,)), (("out", "low", -great),)))

    def test_against_a_search_through_the_rules(self):
        source = random.Random(5)
        for seed in range(30):
            for program in some_chain(seed).programs:
                for state, many in enumerate(program.states):
                    for name in program.names:
                        kept = tuple(sorted(source.sample(range(-6, 7), many)))
                        for integer in range(-8, 9):
                            self.assertEqual(step(program, (state, kept), (name, integer)),
                                             plain_step(program, (state, kept), (name, integer)))

    def test_the_greatest_program_in_a_long_run(self):
        program = Program(*greatest_parts())
        self.assertEqual(len(program.rules), 4 * (1 + 6 * 9 + 7 + 5 + 3))
        reached = start(program)
        plain = start(program)
        for at in range(20000):
            message = (program.names[at % 4], (at * at * 7) % 101)
            reached, wrote = step(program, reached, message)
            if at < 600:
                plain, expected = plain_step(program, plain, message)
                self.assertEqual((reached, wrote), (plain, expected))
            self.assertEqual(len(reached[1]), program.states[reached[0]])
            self.assertEqual(len(wrote), 3)


if __name__ == "__main__":
    unittest.main()
