"""Explaining: point [25]."""

import copy
import itertools
import unittest

from blameless.errors import BlameError, TooLarge
from blameless.explain import explanation
from blameless.interface import Interface
from blameless.language import Component, read_component
from blameless.machine import Machine
from blameless.process import Process
from blameless.safety import surely_defined
from blameless.traces import made_by, maker
from blameless.writer import component_text
from tests.helpers import Chance, Lively

ALONE = Interface([(1, [])])
PAIR = Interface([(1, [(1, 0)]), (1, [])])
EACH_OTHER = Interface([(2, [(1, 0)]), (1, [(0, 1)])])
# The most imports that there can be.
WIDE = Interface([(8, [(1, number) for number in range(8)]), (8, [(0, number) for number in range(8)])])
REST = 300


def explained(interface, trace):
    return [explanation(interface, number, trace) for number in range(interface.size())]


class ExplainTestCase(unittest.TestCase):
    def assert_component(self, interface, number, trace):
        """Check the explanation of one component by itself, and return it."""
        component = explanation(interface, number, trace)
        self.assertIsInstance(component, Component)
        self.assertEqual(len(component.procedures), interface.exports[number])
        text = component_text(component)
        self.assertEqual(read_component(text, len(interface.imports[number])), component)
        self.assertIs(surely_defined(component), True)
        return component

    def assert_explained(self, interface, trace):
        """Check the explanations of all components, and return their run."""
        components = [self.assert_component(interface, number, trace) for number in range(interface.size())]
        process = Process(interface, components)
        for many in range(len(trace)):
            # Its component is current since the event before it.
            since = process.steps
            while len(process.trace) == many and process.steps <= since + 30:
                self.assertEqual(process.state, "running")
                process.step()
            self.assertEqual(process.trace, trace[: many + 1])
            self.assertLessEqual(process.steps, since + 30)
        # No event stands behind the trace, and nothing else happens.
        self.assertEqual(process.go(REST, len(trace) + 9), trace)
        has_ended = trace[-1:] != [] and trace[-1][0] == "end"
        self.assertEqual((process.state, process.blamed), ("ended" if has_ended else "running", None))
        return process


class TraceTest(ExplainTestCase):
    def test_the_empty_trace(self):
        for interface in (ALONE, PAIR, EACH_OTHER, WIDE):
            self.assert_explained(interface, [])

    def test_the_end_alone(self):
        for word in (0, 1, 65535):
            for interface in (ALONE, PAIR):
                self.assert_explained(interface, [("end", word)])

    def test_calls_and_returns(self):
        trace = [("call", 0, 1, 0, 7), ("return", 1, 0, 8), ("call", 0, 1, 0, 65535), ("return", 1, 0, 0), ("end", 9)]
        for many in range(len(trace) + 1):
            self.assert_explained(PAIR, trace[:many])

    def test_the_same_procedure_with_the_same_word_and_with_others(self):
        trace = []
        for answer in (3, 3, 4, 0, 65535, 4):
            trace.extend([("call", 0, 1, 0, 5), ("return", 1, 0, answer)])
        for word in (3, 3, 4, 0, 65535, 4):
            trace.extend([("call", 0, 1, 0, word), ("return", 1, 0, 5)])
        self.assert_explained(PAIR, trace)
        self.assert_explained(PAIR, trace + [("end", 5)])

    def test_calls_within_calls(self):
        interface = Interface([(1, [(1, 0), (2, 0)]), (1, [(2, 0)]), (1, [])])
        trace = [("call", 0, 1, 0, 1), ("call", 1, 2, 0, 2), ("return", 2, 1, 3), ("call", 1, 2, 0, 4)]
        trace.extend([("return", 2, 1, 5), ("return", 1, 0, 6), ("call", 0, 2, 0, 7), ("return", 2, 0, 8), ("end", 9)])
        for many in range(len(trace) + 1):
            self.assert_explained(interface, trace[:many])

    def test_a_component_that_is_used_again_while_it_waits(self):
        trace = [("call", 0, 1, 0, 1), ("call", 1, 0, 1, 2), ("call", 0, 1, 0, 3), ("return", 1, 0, 4)]
        trace.extend([("return", 0, 1, 5), ("call", 1, 0, 1, 6), ("return", 0, 1, 7), ("return", 1, 0, 8), ("end", 9)])
        for many in range(len(trace) + 1):
            self.assert_explained(EACH_OTHER, trace[:many])

    def test_every_exported_procedure(self):
        trace = []
        for number in [0, 7, 3, 4, 1, 6, 2, 5, 5, 0]:
            trace.extend([("call", 0, 1, number, number + 10), ("call", 1, 0, 7 - number, number + 20)])
            trace.extend([("return", 0, 1, number + 30), ("return", 1, 0, number + 40)])
        self.assert_explained(WIDE, trace)
        self.assert_explained(WIDE, trace + [("end", 1)])

    def test_each_order_of_calls_with_the_most_imports(self):
        # A call follows each other one, so that each way through the text is taken.
        trace = []
        for first, second in itertools.product(range(8), repeat=2):
            for number in (first, second):
                trace.extend([("call", 0, 1, number, 5), ("return", 1, 0, 6)])
        self.assert_explained(WIDE, trace)

    def test_drawn_traces(self):
        lengths = []
        for seed in range(250):
            chance = Chance(seed)
            interface = chance.interface()
            trace = chance.trace(interface, chance.random.choice([1, 30, 30, 100]))
            maker(interface, trace)
            lengths.append(len(trace))
            self.assert_explained(interface, trace)
        self.assertGreater(len([length for length in lengths if length >= 30]), 60)

    def test_traces_of_drawn_codes(self):
        for seed in range(200):
            chance = Chance(seed)
            interface = chance.interface()
            trace = Machine(interface, chance.codes(interface)).go(400, 60)
            self.assert_explained(interface, trace)


class LongTest(ExplainTestCase):
    def test_1000_events_one_after_the_other(self):
        trace = []
        for number in range(1000):
            trace.extend([("call", 0, 1, 0, number), ("return", 1, 0, 65535 - number)])
        self.assert_explained(PAIR, trace)
        trace[-1:] = []
        self.assert_explained(PAIR, trace)

    def test_the_end_as_event_1000(self):
        trace = [("call", 0, 1, 0, 3), ("return", 1, 0, 4)] * 999 + [("end", 5)]
        self.assert_explained(PAIR, trace)

    def test_1000_frames_of_a_component(self):
        trace = [("call", 0, 1, 0, 3), ("call", 1, 0, 1, 4)] * 1000
        process = self.assert_explained(EACH_OTHER, trace)
        self.assertEqual(process.state, "running")
        trace = [("call", 0, 1, 0, 3), ("call", 1, 0, 1, 4)] * 499 + [("call", 0, 1, 0, 3)]
        trace.extend([("return", 1, 0, 5), ("return", 0, 1, 6)] * 499 + [("return", 1, 0, 7), ("end", 8)])
        self.assert_explained(EACH_OTHER, trace)

    def test_more_than_1000_events(self):
        trace = [("call", 0, 1, 0, 3), ("return", 1, 0, 4)] * 1000
        explained(PAIR, trace)
        for more, numbers in [(("call", 0, 1, 0, 3), [0]), (("end", 5), [0])]:
            for number in numbers:
                with self.assertRaises(TooLarge) as caught:
                    explanation(PAIR, number, trace + [more])
                self.assertEqual(caught.exception.what, "trace")
                self.assertIsInstance(caught.exception, BlameError)
            # The other one still makes 1000.
            self.assertEqual(len(made_by(trace + [more], 1)), 1000)
            self.assert_component(PAIR, 1, trace + [more])
        with self.assertRaises(TooLarge):
            explanation(PAIR, 1, trace + trace[:2])

    def test_a_component_that_makes_few_events_in_a_long_trace(self):
        interface = Interface([(1, [(1, 0), (2, 0)]), (1, []), (1, [])])
        trace = [("call", 0, 2, 0, 9), ("return", 2, 0, 8)] + [("call", 0, 1, 0, 3), ("return", 1, 0, 4)] * 2000
        self.assertRaises(TooLarge, explanation, interface, 0, trace)
        self.assertRaises(TooLarge, explanation, interface, 1, trace)
        self.assert_component(interface, 2, trace)


class BesideTest(ExplainTestCase):
    def test_beside_texts_that_make_their_events(self):
        tried = 0
        for seed in range(150):
            lively = Lively(seed, cares=(1,))
            interface, components = lively.program()
            process = Process(interface, components)
            trace = process.go(400, 60)
            if len(trace) < 3:
                continue
            tried += 1
            for choice in itertools.product((False, True), repeat=min(interface.size(), 3)):
                mixed = list(components)
                for number, is_explained in enumerate(choice):
                    if is_explained:
                        mixed[number] = explanation(interface, number, trace)
                run = Process(interface, mixed)
                self.assertEqual(run.go(400 + 30 * len(trace), len(trace)), trace)
                self.assertEqual(run.blamed, None)
        self.assertGreater(tried, 20)

    def test_it_makes_no_event_behind_its_last_one(self):
        trace = [("call", 0, 1, 0, 5), ("return", 1, 0, 6)]
        caller = read_component("room 9 procedures 1 procedure 1 use l0 i0 5 use l0 i0 5 use l0 i0 5 end", 1)
        for many, expected in [(0, 1), (1, 1), (2, 3)]:
            process = Process(PAIR, [caller, explanation(PAIR, 1, trace[:many])])
            process.go(2000, 99)
            self.assertEqual((len(process.trace), process.state), (expected, "running"))

    def test_components_that_do_not_keep_to_the_trace(self):
        # Whatever the others do, it is not undefined, has room, and makes no more events than in the trace.
        for seed in range(300):
            lively = Lively(seed, cares=(1,))
            interface, components = lively.program()
            trace = lively.trace(interface, lively.random.choice([3, 20, 60]))
            number = lively.random.randrange(interface.size())
            mixed = [Component(20000, part.buffers, part.procedures) for part in components]
            mixed[number] = explanation(interface, number, trace)
            process = Process(interface, mixed)
            process.go(600, 400)
            self.assertNotEqual(process.blamed, number)
            self.assertLessEqual(len(made_by(process.trace, number)), len(made_by(trace, number)))
            if process.state == "full" and process.trace[-1:] and process.trace[-1][0] == "call":
                self.assertNotEqual(process.trace[-1][2], number)


class UnchangedTest(unittest.TestCase):
    def test_nothing_is_changed(self):
        trace = Chance(1).trace(WIDE, 50)
        before = copy.deepcopy(trace)
        components = explained(WIDE, trace)
        Process(WIDE, components).go(1000, 100)
        self.assertEqual(trace, before)
        self.assertEqual(WIDE.exports, (8, 8))
        self.assertEqual(explained(WIDE, trace), components)


if __name__ == "__main__":
    unittest.main()
