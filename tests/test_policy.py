"""Policies: point [31]."""

import copy
import unittest

from blameless.policy import Policy, broken_at, state_after

CALL = ("call", 0, 1, 0, 7)
BACK = ("return", 1, 0, 8)
END = ("end", 9)
TRACE = [CALL, BACK, CALL, ("call", 1, 2, 3, 7), ("return", 2, 1, 5), BACK, END]


class AfterTest(unittest.TestCase):
    def assert_after(self, rules, state, event, expected):
        for kind in (list, tuple):
            self.assertEqual(Policy(kind(rules)).after(state, event), expected)

    def test_a_rule_of_each_kind(self):
        self.assert_after([(0, "call", 0, 5)], 0, CALL, 5)
        self.assert_after([(0, "return", 1, 5)], 0, BACK, 5)
        self.assert_after([(0, "end", 0, 5)], 0, END, 5)

    def test_a_rule_for_another_kind(self):
        for event, kinds in [(CALL, ("return", "end")), (END, ("call", "return"))]:
            for kind in kinds:
                self.assert_after([(0, kind, 0, 5)], 0, event, 0)
        for kind in ("call", "end"):
            self.assert_after([(0, kind, 1, 5)], 0, BACK, 0)

    def test_the_component_is_the_one_that_makes_the_event(self):
        # Not the one that is called, or that is returned to, nor a procedure or a word.
        for component in (1, 2, 7, -1):
            self.assert_after([(0, "call", component, 5)], 0, CALL, 0)
        for component in (0, 2, 8):
            self.assert_after([(0, "return", component, 5)], 0, BACK, 0)
        self.assert_after([(0, "call", 3, 5)], 0, ("call", 3, 0, 0, 0), 5)
        self.assert_after([(0, "return", 3, 5)], 0, ("return", 3, 0, 0), 5)

    def test_component_0_makes_the_end(self):
        for component in (1, 5, 9):
            self.assert_after([(0, "end", component, 5)], 0, ("end", component), 0)
            self.assert_after([(0, "end", 0, 5)], 0, ("end", component), 5)

    def test_a_rule_for_another_state(self):
        self.assert_after([(1, "call", 0, 5)], 0, CALL, 0)
        self.assert_after([(1, "call", 0, 5)], 1, CALL, 5)
        self.assert_after([(0, "call", 0, 5)], 1, CALL, 1)

    def test_states_of_all_kinds(self):
        for state in (0, 1, -2, 10**9, -(10**9)):
            self.assert_after([(state, "call", 0, state + 10)], state, CALL, state + 10)
            self.assert_after([(state, "call", 0, -1)], state, CALL, -1)

    def test_the_first_rule_that_fits(self):
        rules = [(0, "call", 1, 1), (1, "call", 0, 2), (0, "call", 0, 3), (0, "call", 0, 4), (0, "return", 1, 5)]
        self.assert_after(rules, 0, CALL, 3)
        self.assert_after(rules[3:], 0, CALL, 4)
        self.assert_after([(0, "call", 0, 0), (0, "call", 0, -1)], 0, CALL, 0)

    def test_no_rule(self):
        for state in (0, 3, -1, -2):
            for event in (CALL, BACK, END):
                self.assert_after([], state, event, state)

    def test_a_broken_policy_stays_broken(self):
        rules = [(-1, "call", 0, 0), (-1, "return", 1, 3), (-1, "end", 0, 4), (0, "call", 0, -1)]
        for event in (CALL, BACK, END):
            self.assert_after(rules, -1, event, -1)

    def test_one_rule_is_used_at_an_event(self):
        self.assert_after([(0, "call", 0, 1), (1, "call", 0, 2)], 0, CALL, 1)


class TraceTest(unittest.TestCase):
    def test_the_empty_trace(self):
        for rules in ([], [(0, "call", 0, -1)], [(-1, "call", 0, 5)]):
            self.assertEqual(state_after(Policy(rules), []), 0)
            self.assertIs(broken_at(Policy(rules), []), None)

    def test_rules_of_several_components(self):
        # The states count the calls of 0, the returns of 1 and the calls of 1.
        rules = [(0, "call", 0, 1), (1, "return", 1, 2), (2, "call", 0, 3), (3, "call", 1, 4), (4, "end", 0, 5)]
        states = [state_after(Policy(rules), TRACE[:many]) for many in range(len(TRACE) + 1)]
        self.assertEqual(states, [0, 1, 2, 3, 4, 4, 4, 5])
        self.assertIs(broken_at(Policy(rules), TRACE), None)

    def test_it_is_broken_at_the_first_event(self):
        policy = Policy([(0, "call", 0, -1)])
        self.assertEqual((broken_at(policy, TRACE), state_after(policy, TRACE)), (0, -1))

    def test_it_is_broken_at_a_later_event(self):
        rules = [(0, "return", 1, -1), (0, "call", 1, -1), (0, "return", 2, -1), (0, "end", 0, -1)]
        for rule, at in zip(rules, [1, 3, 4, 6], strict=True):
            policy = Policy([rule, (-1, "end", 0, 0), (-1, "return", 1, 7), (-1, "call", 0, 7)])
            self.assertEqual((broken_at(policy, TRACE), state_after(policy, TRACE)), (at, -1))
            self.assertEqual((broken_at(policy, TRACE[:at]), state_after(policy, TRACE[:at])), (None, 0))
            self.assertEqual(broken_at(policy, TRACE[: at + 1]), at)

    def test_it_is_broken_through_several_states(self):
        # The second call of component 0 is forbidden.
        policy = Policy([(0, "call", 0, 1), (1, "call", 0, -1)])
        self.assertEqual((broken_at(policy, TRACE), state_after(policy, TRACE)), (2, -1))

    def test_it_is_never_broken(self):
        for rules in ([], [(0, "call", 2, -1)], [(1, "call", 0, -1)], [(0, "call", 0, 0), (0, "call", 0, -1)]):
            self.assertIs(broken_at(Policy(rules), TRACE), None)
            self.assertEqual(state_after(Policy(rules), TRACE), 0)

    def test_the_traces_do_not_have_to_be_possible(self):
        self.assertEqual(broken_at(Policy([(0, "end", 0, 1), (1, "end", 0, -1)]), [END, END, END]), 1)

    def test_nothing_is_changed_or_kept(self):
        rules = [(0, "call", 0, 1), (1, "return", 1, -1)]
        before, trace = copy.deepcopy(rules), list(TRACE)
        policy = Policy(rules)
        for _ in range(2):
            self.assertEqual((state_after(policy, trace), broken_at(policy, trace)), (-1, 1))
        self.assertEqual((rules, trace), (before, TRACE))
        rules.clear()
        self.assertEqual(broken_at(policy, trace), 1)


if __name__ == "__main__":
    unittest.main()
