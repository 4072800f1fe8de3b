"""Interfaces and their texts: points [3] and [4]."""

import copy
import unittest

from blameless.errors import BadInterface, BadText
from blameless.interface import Interface, interface_text, read_interface

ONE = [(1, [])]
PAIR = [(1, [(1, 0)]), (2, [])]
THREE = [(1, [(1, 1), (2, 0), (1, 0)]), (2, [(0, 0), (2, 0)]), (1, [])]
# Eight components, where the first one imports 8 procedures and the last one exports 8.
EIGHT = [(1, [(7, procedure) for procedure in range(8)])] + [(1, [(0, 0)]) for _ in range(6)] + [(8, [])]
VALID = (ONE, [(8, [])], PAIR, THREE, EIGHT, [(1, []) for _ in range(8)])

PAIR_TEXT = "component 1 import 1 0 component 2"


class InterfaceTestCase(unittest.TestCase):
    def assert_bad(self, rows, at):
        with self.subTest(rows=rows):
            before = copy.deepcopy(rows)
            with self.assertRaises(BadInterface) as caught:
                Interface(rows)
            self.assertEqual(caught.exception.at, at)
            self.assertEqual(rows, before)

    def assert_bad_text(self, text, at):
        with self.subTest(text=text):
            with self.assertRaises(BadText) as caught:
                read_interface(text)
            self.assertEqual(caught.exception.at, at)

    def assert_bad_interface_text(self, text, at):
        with self.subTest(text=text):
            with self.assertRaises(BadInterface) as caught:
                read_interface(text)
            self.assertEqual(caught.exception.at, at)


class ValidInterfaceTest(InterfaceTestCase):
    def test_fields_and_size_of_one_component(self):
        interface = Interface([(1, [])])
        self.assertEqual(interface.exports, (1,))
        self.assertEqual(interface.imports, ((),))
        self.assertEqual(interface.size(), 1)

    def test_fields_and_size_of_eight_components(self):
        interface = Interface(EIGHT)
        self.assertEqual(interface.exports, (1, 1, 1, 1, 1, 1, 1, 8))
        first = ((7, 0), (7, 1), (7, 2), (7, 3), (7, 4), (7, 5), (7, 6), (7, 7))
        self.assertEqual(interface.imports, (first,) + (((0, 0),),) * 6 + ((),))
        self.assertEqual(interface.size(), 8)

    def test_eight_exports(self):
        interface = Interface([(8, [])])
        self.assertEqual((interface.exports, interface.imports, interface.size()), ((8,), ((),), 1))

    def test_each_number_of_components(self):
        for size in range(1, 9):
            with self.subTest(size=size):
                self.assertEqual(Interface([(1, []) for _ in range(size)]).size(), size)

    def test_imports_keep_their_order(self):
        interface = Interface(THREE)
        self.assertEqual(interface.imports, (((1, 1), (2, 0), (1, 0)), ((0, 0), (2, 0)), ()))

    def test_an_import_of_a_later_component(self):
        self.assertEqual(Interface([(1, [(1, 7)]), (8, [])]).imports[0], ((1, 7),))

    def test_an_import_of_an_earlier_component(self):
        self.assertEqual(Interface([(8, []), (1, [(0, 7)])]).imports[1], ((0, 7),))

    def test_two_components_may_import_the_same_procedure(self):
        rows = [(1, [(2, 0)]), (1, [(2, 0)]), (1, [])]
        self.assertEqual(Interface(rows).imports, (((2, 0),), ((2, 0),), ()))

    def test_kinds_of_the_fields(self):
        for rows in VALID:
            interface = Interface(rows)
            with self.subTest(rows=rows):
                self.assertIs(type(interface.exports), tuple)
                self.assertIs(type(interface.imports), tuple)
                self.assertEqual([type(pairs) for pairs in interface.imports], [tuple] * len(rows))
                self.assertEqual({type(pair) for pairs in interface.imports for pair in pairs} - {tuple}, set())
                self.assertIs(type(interface.size()), int)

    def test_the_rows_stay_as_they_were(self):
        for rows in VALID:
            before = copy.deepcopy(rows)
            interface = Interface(rows)
            interface_text(interface)
            with self.subTest(rows=rows):
                self.assertEqual(rows, before)

    def test_a_later_change_of_the_rows_does_not_reach_the_interface(self):
        imports = [(1, 0)]
        rows = [(1, imports), (2, [])]
        interface = Interface(rows)
        imports.append((1, 1))
        rows.pop()
        self.assertEqual((interface.exports, interface.imports), ((1, 2), (((1, 0),), ())))
        self.assertEqual(interface.size(), 2)


class EqualityTest(unittest.TestCase):
    def test_equal_if_made_again_from_the_same_rows(self):
        for rows in VALID:
            with self.subTest(rows=rows):
                self.assertTrue(Interface(rows) == Interface(copy.deepcopy(rows)))
                self.assertFalse(Interface(rows) != Interface(copy.deepcopy(rows)))

    def assert_differ(self, rows, others):
        with self.subTest(rows=rows, others=others):
            self.assertFalse(Interface(rows) == Interface(others))
            self.assertFalse(Interface(others) == Interface(rows))
            self.assertTrue(Interface(rows) != Interface(others))

    def test_another_number_of_exports(self):
        self.assert_differ(PAIR, [(2, [(1, 0)]), (2, [])])
        self.assert_differ(PAIR, [(1, [(1, 0)]), (3, [])])

    def test_an_import_is_missing(self):
        self.assert_differ(PAIR, [(1, []), (2, [])])
        self.assert_differ(THREE, [(1, [(1, 1), (2, 0)]), (2, [(0, 0), (2, 0)]), (1, [])])

    def test_another_import(self):
        self.assert_differ(PAIR, [(1, [(1, 1)]), (2, [])])

    def test_another_order_of_imports(self):
        self.assert_differ([(1, [(1, 0), (1, 1)]), (2, [])], [(1, [(1, 1), (1, 0)]), (2, [])])

    def test_imports_of_another_component(self):
        self.assert_differ([(1, [(2, 0)]), (1, []), (1, [])], [(1, []), (1, [(2, 0)]), (1, [])])

    def test_one_component_more(self):
        self.assert_differ(ONE, [(1, []), (1, [])])

    def test_valid_interfaces_differ_from_each_other(self):
        for at, rows in enumerate(VALID):
            for others in VALID[at + 1:]:
                self.assert_differ(rows, others)

    def test_unequal_to_other_values(self):
        interface = Interface(PAIR)
        for other in (None, 0, PAIR_TEXT, PAIR, ((1, 2), (((1, 0),), ()))):
            with self.subTest(other=other):
                self.assertFalse(interface == other)
                self.assertTrue(interface != other)


class BadInterfaceTest(InterfaceTestCase):
    def test_no_component(self):
        self.assert_bad([], 0)

    def test_more_than_eight_components(self):
        for size in (9, 10, 20):
            self.assert_bad([(1, []) for _ in range(size)], 8)

    def test_more_than_eight_components_of_which_an_earlier_one_is_not_valid(self):
        self.assert_bad([(0, [])] + [(1, []) for _ in range(8)], 8)
        self.assert_bad([(1, [(0, 0)])] + [(9, []) for _ in range(9)], 8)
        self.assert_bad([(1, []) for _ in range(8)] + [(0, [])], 8)

    def test_numbers_of_exports(self):
        for exports in (-1, 0, 9, 10, 65535):
            self.assert_bad([(exports, [])], 0)
            self.assert_bad([(1, []), (exports, []), (1, [])], 1)
            self.assert_bad([(1, []) for _ in range(7)] + [(exports, [])], 7)

    def test_nine_imports(self):
        nine = [(1, procedure) for procedure in range(8)] + [(2, 0)]
        self.assert_bad([(1, nine), (8, []), (1, [])], 0)
        others = [(0, procedure) for procedure in range(8)] + [(1, 0)]
        self.assert_bad([(8, []), (1, []), (1, others)], 2)
        self.assertEqual(len(Interface([(1, nine[:8]), (8, []), (1, [])]).imports[0]), 8)

    def test_an_import_twice(self):
        self.assert_bad([(1, [(1, 0), (1, 0)]), (1, [])], 0)
        self.assert_bad([(1, [(1, 0), (1, 1), (1, 0)]), (2, [])], 0)
        self.assert_bad([(1, []), (1, [(0, 0), (0, 0)])], 1)

    def test_an_import_of_a_component_that_does_not_exist(self):
        self.assert_bad([(1, [(1, 0)])], 0)
        self.assert_bad([(1, [(2, 0)]), (1, [])], 0)
        self.assert_bad([(1, []), (1, [(2, 0)])], 1)
        self.assert_bad([(1, [(65535, 0)]), (1, [])], 0)
        self.assert_bad([(1, [(-1, 0)]), (1, [])], 0)

    def test_an_import_of_a_procedure_that_is_not_exported(self):
        self.assert_bad([(1, [(1, 1)]), (1, [])], 0)
        self.assert_bad([(1, [(1, 2)]), (2, [])], 0)
        self.assert_bad([(3, []), (1, [(0, 2), (0, 3)])], 1)
        self.assert_bad([(1, [(1, 8)]), (8, [])], 0)
        self.assert_bad([(1, [(1, -1)]), (1, [])], 0)

    def test_an_import_of_the_component_itself(self):
        self.assert_bad([(1, [(0, 0)])], 0)
        self.assert_bad([(1, []), (2, [(0, 0), (1, 1)])], 1)

    def test_an_import_of_a_component_whose_exports_are_not_valid(self):
        # The import is compared with the exports as given: it is the exporting component that is at fault.
        self.assert_bad([(1, [(1, 8)]), (9, [])], 1)
        self.assert_bad([(1, [(1, 0)]), (9, [])], 1)
        self.assert_bad([(9, []), (1, [(0, 8)])], 0)
        # No procedure is exported, so that it is the importing component that is at fault.
        self.assert_bad([(1, [(1, 0)]), (0, [])], 0)
        self.assert_bad([(1, [(1, 9)]), (9, [])], 0)
        self.assert_bad([(1, [(1, 0)]), (-1, [])], 0)

    def test_of_two_faults_the_first_component_counts(self):
        self.assert_bad([(0, []), (9, [])], 0)
        self.assert_bad([(1, []), (0, []), (1, [(2, 0)])], 1)
        self.assert_bad([(1, []), (1, [(1, 0)]), (0, [])], 1)
        self.assert_bad([(1, [(2, 0)]), (9, []), (1, [(2, 0)])], 1)
        self.assert_bad([(1, [(1, 5)]), (0, [])], 0)


class InterfaceTextTest(InterfaceTestCase):
    def test_the_example_of_the_document(self):
        self.assertEqual(interface_text(Interface([(1, [(1, 0)]), (2, [])])), PAIR_TEXT)

    def test_texts(self):
        self.assertEqual(interface_text(Interface(ONE)), "component 1")
        self.assertEqual(interface_text(Interface([(8, [])])), "component 8")
        three = "component 1 import 1 1 import 2 0 import 1 0 component 2 import 0 0 import 2 0 component 1"
        self.assertEqual(interface_text(Interface(THREE)), three)

    def test_there_and_back(self):
        for rows in VALID:
            interface = Interface(rows)
            text = interface_text(interface)
            with self.subTest(text=text):
                self.assertIs(type(text), str)
                self.assertEqual(read_interface(text), interface)
                self.assertEqual(interface_text(read_interface(text)), text)
                self.assertEqual(interface, Interface(rows))

    def test_what_a_text_writes(self):
        interface = read_interface(PAIR_TEXT)
        self.assertIs(type(interface), Interface)
        self.assertEqual(interface.exports, (1, 2))
        self.assertEqual(interface.imports, (((1, 0),), ()))
        self.assertEqual(interface.size(), 2)

    def test_a_text_without_words(self):
        self.assert_bad_text("", 0)

    def test_texts_that_break_off(self):
        self.assert_bad_text("component", 1)
        self.assert_bad_text("component 1 import", 3)
        self.assert_bad_text("component 1 import 1", 4)
        self.assert_bad_text("component 1 import 1 0 component", 6)

    def test_texts_that_break_off_where_they_may_end(self):
        # The words fit, but the import is of a component that is missing.
        self.assert_bad_interface_text("component 1 import 1 0", 0)
        self.assertEqual(read_interface("component 1"), Interface(ONE))
        self.assertEqual(read_interface(PAIR_TEXT), Interface(PAIR))

    def test_one_word_more(self):
        for word in ("0", "1", "end", "components", "Component", ","):
            self.assert_bad_text("component 1 " + word, 2)
            self.assert_bad_text("component 1 import 1 0 " + word, 5)
            self.assert_bad_text(PAIR_TEXT + " " + word, 7)
        self.assert_bad_text(PAIR_TEXT + " component", 8)
        self.assert_bad_text(PAIR_TEXT + " import", 8)

    def test_a_strange_word_at_each_place(self):
        words = PAIR_TEXT.split(" ")
        for at in range(len(words)):
            for word in ("strange", "", "Component", "imports", "-1", "+1", "01", "00", "65536", "100000", "1_0"):
                self.assert_bad_text(" ".join(words[:at] + [word] + words[at + 1:]), at)

    def test_a_word_of_another_place(self):
        self.assert_bad_text("import 1 0", 0)
        self.assert_bad_text("import 1 0 component 1", 0)
        self.assert_bad_text("1", 0)
        self.assert_bad_text("component component 1", 1)
        self.assert_bad_text("component import", 1)
        self.assert_bad_text("component 1 1", 2)
        self.assert_bad_text("component 1 import component", 3)
        self.assert_bad_text("component 1 import 1 component", 4)
        self.assert_bad_text("component 1 import 1 import", 4)

    def test_spaces_that_part_no_words(self):
        self.assert_bad_text(" ", 0)
        self.assert_bad_text("  ", 0)
        self.assert_bad_text(" component 1", 0)
        self.assert_bad_text("component  1", 1)
        self.assert_bad_text("component 1 ", 2)
        self.assert_bad_text("component 1 import 1 0 ", 5)
        self.assert_bad_text("component\t1", 0)
        self.assert_bad_text("component 1\n", 1)

    def test_the_first_strange_word_counts(self):
        self.assert_bad_text("component x import y", 1)
        self.assert_bad_text("component 1 import x y", 3)
        self.assert_bad_text("component 1 strange component x", 2)

    def test_numbers_that_are_none(self):
        for word in ("01", "00", "007", "-1", "+1", "-0", "65536", "99999", "100000", "000001", "1x", "x"):
            self.assert_bad_text("component " + word, 1)
            self.assert_bad_text("component 1 import " + word + " 0 component 1", 3)
            self.assert_bad_text("component 1 import 1 " + word + " component 1", 4)

    def test_numbers_that_make_no_valid_interface(self):
        self.assert_bad_interface_text("component 0", 0)
        self.assert_bad_interface_text("component 9", 0)
        self.assert_bad_interface_text("component 65535", 0)
        self.assert_bad_interface_text("component 1 import 0 0", 0)
        self.assert_bad_interface_text("component 1 import 65535 65535", 0)
        self.assert_bad_interface_text("component 1 import 1 0 component 0", 0)
        self.assert_bad_interface_text("component 1 import 1 8 component 9", 1)
        self.assert_bad_interface_text("component 1 import 1 0 import 1 0 component 1", 0)
        self.assert_bad_interface_text("component 1 component 1 import 0 1", 1)
        nine = " ".join(["import 0 " + str(number) for number in range(9)])
        self.assert_bad_interface_text("component 8 component 1 " + nine, 1)

    def test_more_than_eight_components(self):
        self.assertEqual(read_interface(" ".join(["component 1"] * 8)).size(), 8)
        self.assert_bad_interface_text(" ".join(["component 1"] * 9), 8)
        self.assert_bad_interface_text(" ".join(["component 0"] * 10), 8)

    def test_a_strange_word_counts_before_an_interface_that_is_not_valid(self):
        self.assert_bad_text("component 0 strange", 2)
        self.assert_bad_text("component 9 component", 3)
        self.assert_bad_text(" ".join(["component 1"] * 9) + " import 1", 20)


if __name__ == "__main__":
    unittest.main()
