"""Blame: points [26] and [27], and what points [21] to [27] promise together."""

import copy
import itertools
import unittest

from blameless.blame import Verdict, blame
from blameless.compiler import compile_component
from blameless.errors import TooLarge
from blameless.explain import explanation
from blameless.interface import Interface
from blameless.language import Component, read_component
from blameless.machine import Code, Machine
from blameless.process import Process
from blameless.traces import possible
from tests.helpers import Chance, Lively, with_body

MANY = 10**5
ALONE = Interface([(1, [])])
PAIR = Interface([(1, [(1, 0)]), (1, [])])
# Component 0 imports those of 1 and 2, which import nothing.
THREE = Interface([(1, [(1, 0), (2, 0)]), (1, []), (1, [])])

# It answers a word of its buffer, and anything where there is none.
READER = "room 9 procedures 1 buffer 2 5 6 procedure 1 return get b0 l0 end"
DOUBLER = "room 9 procedures 1 procedure 1 return * l0 2 end"
ECHO = Code([16, 0, 0, 0], [0])


def caller_of(*uses, imports=1):
    """Return a component that makes these uses, pairs of an import and a word, one after the other."""
    body = " ".join([f"use l1 i{number} {word}" for number, word in uses])
    return read_component(with_body(f"{body} return l1".strip(), room=99), imports)


def codes_of(interface, parts, checked):
    rows = zip(parts, interface.exports, strict=True)
    return [
        compile_component(part, exports, checked=checked) if isinstance(part, Component) else part
        for part, exports in rows
    ]


class BlameTestCase(unittest.TestCase):
    def assert_verdict(self, interface, parts, steps, blamed=None, checked=False):
        """Check all that holds for each verdict, and return it; `blamed` is the expected field."""
        verdict = blame(interface, parts, steps, checked=checked)
        self.assertIsInstance(verdict, Verdict)
        machine = Machine(interface, codes_of(interface, parts, checked))
        self.assertEqual(verdict.trace, machine.go(steps, MANY))
        self.assertEqual(verdict.made, verdict.trace)
        self.assertEqual([type(verdict.trace), type(verdict.made)], [list, list])
        self.assertIsNot(verdict.made, verdict.trace)
        self.assertEqual([type(verdict.blamed), type(verdict.components)], [tuple, tuple])
        self.assertIs(possible(interface, verdict.trace), True)
        self.assertEqual(len(set(verdict.blamed)), len(verdict.blamed))
        self.assertEqual(len(verdict.components), interface.size())
        for number, part in enumerate(parts):
            if isinstance(part, Component) and number not in verdict.blamed:
                self.assertEqual(verdict.components[number], part)
            else:
                self.assertEqual(verdict.components[number], explanation(interface, number, verdict.trace))
        self.assert_last_run(interface, verdict, steps)
        self.assertTrue(all([isinstance(parts[number], Component) for number in verdict.blamed]))
        if blamed is not None:
            self.assertEqual(verdict.blamed, blamed)
        return verdict

    def assert_last_run(self, interface, verdict, steps):
        process = Process(interface, list(verdict.components))
        made = process.go(steps + 30 * len(verdict.trace), len(verdict.trace))
        self.assertEqual((made, process.blamed), (verdict.trace, None))


class CodesTest(BlameTestCase):
    def test_codes_alone(self):
        codes = [Code([1, 0, 5, 0, 15, 0, 0, 0, 16, 0, 0, 0], [0]), Code([3, 0, 0, 0, 16, 0, 0, 0], [0])]
        verdict = self.assert_verdict(PAIR, codes, 100, ())
        self.assertEqual(verdict.trace, [("call", 0, 1, 0, 5), ("return", 1, 0, 10), ("end", 10)])
        self.assertTrue(all([isinstance(component, Component) for component in verdict.components]))

    def test_codes_that_stop(self):
        for stop in ([0, 0, 0, 0], [99, 0, 0, 0], [10, 0, 0, 65535], [15, 0, 7, 0], []):
            verdict = self.assert_verdict(PAIR, [Code([15, 0, 0, 0] + stop, [0]), ECHO], 100, ())
            self.assertEqual(verdict.trace, [("call", 0, 1, 0, 0), ("return", 1, 0, 0)])
            self.assert_verdict(ALONE, [Code(stop, [0])], 100, ())

    def test_drawn_codes(self):
        lengths = []
        for seed in range(200):
            chance = Chance(seed)
            interface = chance.interface()
            codes = chance.codes(interface)
            for checked in (False, True):
                verdict = self.assert_verdict(interface, codes, chance.random.choice([5, 50, 300]), (), checked)
            lengths.append(len(verdict.trace))
        self.assertGreater(len([length for length in lengths if length > 3]), 40)


class DefinedTest(BlameTestCase):
    def test_texts_alone(self):
        parts = [caller_of((0, 5), (0, 6)), read_component(DOUBLER, 0)]
        for checked in (False, True):
            verdict = self.assert_verdict(PAIR, parts, 1000, (), checked)
            self.assertEqual([event[-1] for event in verdict.trace], [5, 10, 6, 12, 12])
            self.assertEqual(verdict.components, tuple(parts))

    def test_texts_beside_codes(self):
        caller, doubler = caller_of((0, 5), (0, 6)), read_component(DOUBLER, 0)
        by_hand = Code([1, 0, 9, 0, 15, 0, 0, 0, 16, 0, 0, 0], [0])
        for parts in ([caller, ECHO], [by_hand, doubler]):
            for checked in (False, True):
                self.assert_verdict(PAIR, parts, 1000, (), checked)

    def test_a_text_that_is_full(self):
        body = "if l0 use l0 i0 l0 call l0 p0 - l0 1 else call l0 p0 4 end"
        for room in range(30):
            text = f"room {room} procedures 1 procedure 1 {body} end"
            for checked in (False, True):
                self.assert_verdict(PAIR, [read_component(text, 1), ECHO], 1000, (), checked)

    def test_programs_that_are_always_defined(self):
        for seed in range(120):
            lively = Lively(seed, cares=(1,))
            interface, parts = lively.program()
            codes = lively.codes(interface)
            parts = [lively.random.choice([part, part, code]) for part, code in zip(parts, codes)]
            self.assert_verdict(interface, parts, lively.random.choice([10, 100, 1000]), (), seed % 2 == 0)


class UndefinedTest(BlameTestCase):
    def test_one_that_is_blamed(self):
        # Behind its buffer there is some word of its memory: the machine goes on.
        parts = [caller_of((0, 1), (0, 2), (0, 1)), read_component(READER, 0)]
        verdict = self.assert_verdict(PAIR, parts, 1000, (1,))
        self.assertEqual(len(verdict.trace), 7)
        self.assertEqual([event[-1] for event in verdict.trace[:3]], [1, 6, 2])
        self.assertEqual(verdict.components[0], parts[0])

    def test_one_that_is_blamed_beside_a_code(self):
        by_hand = Code([1, 0, 2, 0, 15, 0, 0, 0, 16, 0, 0, 0], [0])
        verdict = self.assert_verdict(PAIR, [by_hand, read_component(READER, 0)], 1000, (1,))
        self.assertEqual(len(verdict.trace), 3)

    def test_component_0_is_blamed(self):
        for body in ("put b0 1 7 use l1 i0 3", "use l1 i0 get b0 1", "if get b0 1 end use l1 i0 9"):
            text = with_body(body, room=99, buffers=[[5]])
            self.assert_verdict(PAIR, [read_component(text, 1), ECHO], 1000, (0,))

    def test_several_are_blamed_in_their_order(self):
        # Its words are no indexes of READER's buffer where they are above 1.
        reader = read_component(READER, 0)
        for uses, blamed in [
            ([(0, 2), (1, 2)], (1, 2)),
            ([(1, 2), (0, 2)], (2, 1)),
            ([(1, 1), (0, 2), (1, 0), (0, 1), (1, 2), (0, 3)], (1, 2)),
            ([(1, 3), (1, 2), (1, 2)], (2,)),
            ([(0, 0), (1, 1), (0, 1), (1, 0)], ()),
        ]:
            verdict = self.assert_verdict(THREE, [caller_of(*uses, imports=2), reader, reader], 2000, blamed)
            self.assertEqual(len(verdict.trace), 2 * len(uses) + 1)

    def test_all_three_are_blamed(self):
        reader = read_component(READER, 0)
        for first, blamed in [("", (1, 0, 2)), ("put b0 1 1 ", (0, 1, 2))]:
            text = with_body(f"{first}use l1 i0 2 put b0 1 1 use l1 i1 2", room=99, buffers=[[5]])
            self.assert_verdict(THREE, [read_component(text, 2), reader, reader], 2000, blamed)

    def test_one_that_did_nothing_undefined_is_not_blamed(self):
        # Component 1 passes on what it is told; component 2 reads with it.
        interface = Interface([(1, [(1, 0)]), (1, [(2, 0)]), (1, [])])
        parts = [caller_of((0, 2)), caller_of((0, 1), (0, 9), (0, 0)), read_component(READER, 0)]
        self.assert_verdict(interface, parts, 2000, (2,))

    def test_what_is_undefined_behind_the_last_event_is_not_looked_at(self):
        # The machine stops there with checks, and without them it makes no more events either.
        text = with_body("use l1 i0 3 while 1 put b0 9 9 end", room=99, buffers=[[5]])
        for checked in (False, True):
            verdict = self.assert_verdict(PAIR, [read_component(text, 1), ECHO], 300, (), checked)
            self.assertEqual(verdict.trace, [("call", 0, 1, 0, 3), ("return", 1, 0, 3)])

    def test_with_checks_nobody_is_blamed(self):
        reader = read_component(READER, 0)
        for uses, many in [([(0, 2), (1, 2)], 1), ([(1, 1), (0, 2)], 3), ([(0, 1), (1, 2)], 3)]:
            verdict = self.assert_verdict(THREE, [caller_of(*uses, imports=2), reader, reader], 2000, (), True)
            self.assertEqual(len(verdict.trace), many)

    def test_a_code_is_never_blamed(self):
        # The code is that of the reader, compiled without checks.
        parts = [caller_of((0, 1), (0, 2), (0, 1)), compile_component(read_component(READER, 0), 1)]
        verdict = self.assert_verdict(PAIR, parts, 1000, ())
        self.assertEqual(len(verdict.trace), 7)
        reference = self.assert_verdict(PAIR, [parts[0], read_component(READER, 0)], 1000, (1,))
        self.assertEqual(verdict.trace, reference.trace)

    def test_drawn_programs(self):
        counts = []
        for seed in range(500):
            lively = Lively(seed, cares=(0.6, 0.9))
            interface, parts = lively.program()
            codes = lively.codes(interface)
            parts = [lively.random.choice([part, part, part, code]) for part, code in zip(parts, codes)]
            steps = lively.random.choice([10, 100, 1000])
            counts.append(len(self.assert_verdict(interface, parts, steps).blamed))
            self.assert_verdict(interface, parts, steps, (), True)
        self.assertGreater(len([count for count in counts if count > 0]), 10)


class StepsTest(BlameTestCase):
    PARTS = [caller_of((0, 1), (0, 2), (0, 1)), read_component(READER, 0)]

    def test_0_steps(self):
        verdict = self.assert_verdict(PAIR, self.PARTS, 0, ())
        self.assertEqual((verdict.trace, verdict.made), ([], []))
        self.assertEqual(verdict.components, tuple(self.PARTS))
        verdict = self.assert_verdict(PAIR, [ECHO, ECHO], 0, ())
        self.assertEqual(verdict.trace, [])

    def test_each_number_of_steps(self):
        whole = blame(PAIR, self.PARTS, 1000)
        lengths = []
        for steps in range(150):
            verdict = self.assert_verdict(PAIR, self.PARTS, steps)
            self.assertEqual(verdict.trace, whole.trace[: len(verdict.trace)])
            # It is blamed once the machine made an event behind what was undefined.
            self.assertEqual(verdict.blamed, (1,) if len(verdict.trace) > 3 else ())
            lengths.append(len(verdict.trace))
        self.assertEqual(sorted(set(lengths)), list(range(8)))

    def test_a_trace_that_is_cut_off(self):
        looping = read_component(with_body("while 1 use l1 i0 + l1 1 end", room=99), 1)
        for steps in (1, 5, 30, 500):
            for other in (ECHO, read_component(DOUBLER, 0)):
                verdict = self.assert_verdict(PAIR, [looping, other], steps, ())
        self.assertGreater(len(verdict.trace), 20)

    def test_a_machine_that_makes_no_events_for_ever(self):
        idle = read_component(with_body("while 1 end", room=99), 1)
        for parts in ([idle, ECHO], [Code([12, 0, 0, 0], [0]), ECHO]):
            self.assertEqual(self.assert_verdict(PAIR, parts, 5000, ()).trace, [])


class TooLargeTest(BlameTestCase):
    def test_a_part_that_cannot_be_compiled(self):
        large = read_component(with_body(" ".join(["set l1 + l2 3"] * 15001), room=20), 0)
        for parts in ([caller_of((0, 1)), large], [Code([15, 0, 0, 0], [0]), large]):
            for steps in (0, 100):
                with self.assertRaises(TooLarge) as caught:
                    blame(PAIR, parts, steps)
                self.assertEqual(caught.exception.what, "memory")

    def test_a_code_that_makes_too_many_events(self):
        looping = Code([15, 0, 0, 0, 12, 0, 0, 0], [0])
        # Three steps make two events, one of each component.
        self.assertEqual(len(self.assert_verdict(PAIR, [looping, ECHO], 3000, ()).trace), 2000)
        with self.assertRaises(TooLarge) as caught:
            blame(PAIR, [looping, ECHO], 3001)
        self.assertEqual(caught.exception.what, "trace")

    def test_a_text_that_makes_many_events(self):
        # Only what is explained may not make too many.
        text = "room 9 procedures 1 procedure 1 while 1 use l0 i0 l0 end end"
        parts = [read_component(text, 1), read_component(DOUBLER, 0)]
        verdict = self.assert_verdict(PAIR, parts, 60000, ())
        self.assertGreater(len(verdict.trace), 2002)

    def test_a_text_that_is_blamed_and_makes_too_many_events(self):
        text = with_body("use l1 i0 2 put b0 1 7 while 1 use l1 i0 l1 end", room=99, buffers=[[5]])
        parts = [read_component(text, 1), read_component(DOUBLER, 0)]
        with self.assertRaises(TooLarge) as caught:
            blame(PAIR, parts, 60000)
        self.assertEqual(caught.exception.what, "trace")
        self.assert_verdict(PAIR, parts, 200, (0,))

    def test_checked_is_passed_by_keyword(self):
        self.assertRaises(TypeError, blame, ALONE, [ECHO], 10, True)


class WholeTest(unittest.TestCase):
    def test_codes_and_the_texts_that_explain_them_compiled(self):
        # Each mixture of the codes and the compiled texts makes the trace of the codes.
        tried = 0
        for seed in range(150):
            chance = Chance(seed)
            interface = chance.interface()
            if interface.size() > 3:
                continue
            codes = chance.codes(interface)
            machine = Machine(interface, codes)
            trace = machine.go(300, 40)
            texts = [explanation(interface, number, trace) for number in range(interface.size())]
            others = codes_of(interface, texts, seed % 2 == 0)
            compiled = Machine(interface, others)
            self.assertEqual(compiled.go(MANY, len(trace)), trace)
            tried += len(trace) > 3
            for choice in itertools.product((0, 1), repeat=interface.size()):
                mixed = Machine(interface, [(codes, others)[side][at] for at, side in enumerate(choice)])
                self.assertEqual(mixed.go(machine.steps + compiled.steps, len(trace)), trace)
        self.assertGreater(tried, 20)

    def test_the_texts_of_a_verdict_are_not_blamed_again(self):
        for seed in range(200):
            lively = Lively(seed, cares=(0.6,))
            interface, parts = lively.program()
            verdict = blame(interface, parts, 300)
            again = blame(interface, list(verdict.components), MANY // 10)
            self.assertEqual(again.trace[: len(verdict.trace)], verdict.trace)
            # What was not blamed may be undefined behind the trace.
            self.assertEqual([number for number in again.blamed if number in verdict.blamed], [])

    def test_nothing_is_changed(self):
        for seed in range(60):
            lively = Lively(seed, cares=(0.6,))
            interface, parts = lively.program()
            codes = lively.codes(interface)
            given = [lively.random.choice([part, part, code]) for part, code in zip(parts, codes)]
            before = [copy.deepcopy(vars(part)) for part in given]
            same = list(given)
            first = blame(interface, given, 300)
            self.assertTrue(all([one is other for one, other in zip(given, same, strict=True)]))
            self.assertEqual([vars(part) for part in given], before)
            second = blame(interface, given, 300)
            self.assertEqual(vars(first), vars(second))


if __name__ == "__main__":
    unittest.main()
