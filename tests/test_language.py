"""Components: their data and reading their texts, points [5] to [10]."""

import copy
import unittest

from blameless.errors import BadText
from blameless.language import Component, read_component
from blameless.words import OPERATORS
from blameless.writer import component_text
from tests.helpers import Chance, fault_of, with_body

# Every statement and every expression, and the data that point [10] gives for it.
RICH_TEXT = (
    "room 120 procedures 2 buffer 3 0 7 65535 buffer 1 9 "
    "procedure 3 set l1 + l0 1 put b0 get b1 0 - 5 l1 call l2 p1 * l1 2 use l0 i1 / l2 3 "
    "if < l0 10 set l0 mod l0 7 else return = l0 65535 end if l0 end if 0 else call l0 p0 0 end "
    "while l2 set l2 - l2 1 while 0 end end return get b0 l1 end "
    "procedure 1 end"
)
RICH_DATA = (
    (
        3,
        (
            ("set", 1, ("+", ("local", 0), ("number", 1))),
            ("put", 0, ("get", 1, ("number", 0)), ("-", ("number", 5), ("local", 1))),
            ("call", 2, 1, ("*", ("local", 1), ("number", 2))),
            ("use", 0, 1, ("/", ("local", 2), ("number", 3))),
            (
                "if",
                ("<", ("local", 0), ("number", 10)),
                (("set", 0, ("mod", ("local", 0), ("number", 7))),),
                (("return", ("=", ("local", 0), ("number", 65535))),),
            ),
            ("if", ("local", 0), (), ()),
            ("if", ("number", 0), (), (("call", 0, 0, ("number", 0)),)),
            ("while", ("local", 2), (("set", 2, ("-", ("local", 2), ("number", 1))), ("while", ("number", 0), ()))),
            ("return", ("get", 0, ("local", 1))),
        ),
    ),
    (1, ()),
)
RICH_IMPORTS = 2

# Words that fit at no place of RICH_TEXT: empty, strange, no numbers of point [6], or names that do not exist.
MISFITS = (
    ("", "?", "x", "Room", "SET", "roomy", "seT", "if,", "**", "<=", "==", ">", "and", "%", "^")
    + ("00", "01", "007", "000000", "65536", "99999", "100000", "-1", "+1", "1.0", "1_0", "0x1")
    + ("l", "b", "p", "i", "l3", "b2", "p2", "i2", "l00", "l01", "b00", "p01", "i01", "l-1", "l65536", "l99999")
    + ("L0", "B0", "P0", "I0", "0l", "ll0", "l0l", "l_0", "g0", "local0")
)


def nested(words, inner):
    """Return `if` and `while` within each other, with `inner` in the last one; "else" is an `if` and its `else`."""
    opened = {"if": "if 1", "while": "while 1", "else": "if 1 else"}
    parts = [opened[word] for word in words] + ([inner] if inner else []) + ["end"] * len(words)
    return " ".join(parts)


def deep(depth, place):
    """Return an expression of a depth, whose deepest part is on the left, on the right or in a `get`."""
    if depth == 1:
        return "l0"
    inner = deep(depth - 1, place)
    return {"left": f"+ {inner} 1", "right": f"< 1 {inner}", "get": f"get b0 {inner}"}[place]


class LanguageTestCase(unittest.TestCase):
    def assert_fault(self, text, at, imports=0):
        with self.subTest(text=text[:200], imports=imports):
            self.assertEqual(fault_of(text, imports), at)

    def assert_read(self, text, imports=0):
        with self.subTest(text=text[:200], imports=imports):
            component = read_component(text, imports)
            self.assertEqual(component_text(component), text)
            return component

    def assert_body(self, body, block, imports=0, **more):
        """Compare the block of a body with its data."""
        component = self.assert_read(with_body(body, **more), imports)
        self.assertEqual(component.procedures[0][1], block)

    def assert_body_fault(self, body, word, imports=0, **more):
        """Check that a body is refused at its word number `word`, where the body begins behind `procedure N`."""
        text = with_body(body, **more)
        begin = text.split(" ").index("procedure") + 2
        self.assert_fault(text, begin + word, imports)


class ComponentTest(LanguageTestCase):
    def test_fields(self):
        component = Component(5, [[1, 2], [3]], [(2, (("return", ("local", 1)),)), (1, ())])
        self.assertEqual(component.room, 5)
        self.assertEqual(component.buffers, ((1, 2), (3,)))
        self.assertEqual(component.procedures, ((2, (("return", ("local", 1)),)), (1, ())))
        self.assertEqual(set(vars(component)), {"room", "buffers", "procedures"})

    def test_fields_are_tuples_throughout(self):
        buffers = [[1, 2], (3,)]
        procedures = [[2, [["if", ["number", 1], [], [["return", ["get", 0, ["local", 1]]]]]]]]
        component = Component(5, buffers, procedures)
        self.assertIs(type(component.buffers), tuple)
        self.assertEqual([type(buffer) for buffer in component.buffers], [tuple, tuple])
        self.assertIs(type(component.procedures), tuple)
        block = (("if", ("number", 1), (), (("return", ("get", 0, ("local", 1))),)),)
        self.assertEqual(component.procedures, ((2, block),))

    def test_no_buffers(self):
        self.assertEqual(Component(5, [], [(1, ())]).buffers, ())
        self.assertEqual(Component(5, (), [(1, ())]).buffers, ())

    def test_lists_and_tuples_make_equal_components(self):
        block = (("set", 0, ("number", 1)),)
        made = [
            Component(5, buffers, procedures)
            for buffers in ([[1, 2], [3]], ((1, 2), (3,)), [(1, 2), [3]], ([1, 2], [3]))
            for procedures in ([(1, block)], ((1, block),), [[1, block]], [(1, list(block))])
        ]
        for component in made:
            for other in made:
                self.assertTrue(component == other)
                self.assertFalse(component != other)

    def test_different_in_one_number(self):
        component = Component(5, [[1, 2]], [(2, (("put", 0, ("local", 1), ("number", 7)),)), (1, ())])
        others = (
            Component(6, [[1, 2]], [(2, (("put", 0, ("local", 1), ("number", 7)),)), (1, ())]),
            Component(5, [[1, 3]], [(2, (("put", 0, ("local", 1), ("number", 7)),)), (1, ())]),
            Component(5, [[1, 2]], [(3, (("put", 0, ("local", 1), ("number", 7)),)), (1, ())]),
            Component(5, [[1, 2]], [(2, (("put", 1, ("local", 1), ("number", 7)),)), (1, ())]),
            Component(5, [[1, 2]], [(2, (("put", 0, ("local", 0), ("number", 7)),)), (1, ())]),
            Component(5, [[1, 2]], [(2, (("put", 0, ("local", 1), ("number", 8)),)), (1, ())]),
            Component(5, [[1, 2]], [(2, (("put", 0, ("local", 1), ("number", 7)),)), (2, ())]),
            Component(5, [[1], [2]], [(2, (("put", 0, ("local", 1), ("number", 7)),)), (1, ())]),
            Component(5, [[1, 2]], [(2, (("put", 0, ("local", 1), ("number", 7)),))]),
            Component(5, [], [(2, (("put", 0, ("local", 1), ("number", 7)),)), (1, ())]),
        )
        for at, other in enumerate(others):
            with self.subTest(at=at):
                self.assertFalse(component == other)
                self.assertTrue(component != other)

    def test_not_equal_to_other_kinds(self):
        component = Component(5, [], [(1, ())])
        for other in (None, 5, "room 5", (5, (), ((1, ()),))):
            self.assertFalse(component == other)

    def test_what_is_passed_stays_as_it_was(self):
        buffers = [[1, 2], [3]]
        procedures = [(1, [["set", 0, ["number", 1]]])]
        before = copy.deepcopy((buffers, procedures))
        component = Component(5, buffers, procedures)
        self.assertEqual((buffers, procedures), before)
        buffers[0][0] = 9
        procedures[0][1].append(["return", ["number", 2]])
        self.assertEqual(component, Component(5, before[0], before[1]))

    def test_limits_are_not_looked_at(self):
        component = Component(30000, [[70000], []], [(17, ())] * 9)
        self.assertEqual(component.room, 30000)
        self.assertEqual(component.buffers, ((70000,), ()))
        self.assertEqual(len(component.procedures), 9)


class ReadTest(LanguageTestCase):
    def test_every_statement_and_every_expression(self):
        component = self.assert_read(RICH_TEXT, RICH_IMPORTS)
        self.assertEqual(component, Component(120, [[0, 7, 65535], [9]], RICH_DATA))
        self.assertEqual(component.room, 120)
        self.assertEqual(component.buffers, ((0, 7, 65535), (9,)))
        self.assertEqual(component.procedures, RICH_DATA)

    def test_each_statement(self):
        one, two = ("number", 1), ("number", 2)
        self.assert_body("", ())
        self.assert_body("set l3 1", (("set", 3, one),))
        self.assert_body("put b0 1 2", (("put", 0, one, two),), buffers=[[5]])
        self.assert_body("call l2 p0 1", (("call", 2, 0, one),))
        self.assert_body("use l2 i0 1", (("use", 2, 0, one),), imports=1)
        self.assert_body("if 1 end", (("if", one, (), ()),))
        self.assert_body("if 1 return 2 end", (("if", one, (("return", two),), ()),))
        self.assert_body("if 1 else return 2 end", (("if", one, (), (("return", two),)),))
        both = (("return", one),), (("return", two), ("return", one))
        self.assert_body("if 1 return 1 else return 2 return 1 end", (("if", one, *both),))
        self.assert_body("while 1 end", (("while", one, ()),))
        self.assert_body("while 1 return 2 return 2 end", (("while", one, (("return", two),) * 2),))
        self.assert_body("return 1", (("return", one),))
        self.assert_body("return 1 return 2", (("return", one), ("return", two)))

    def test_each_expression(self):
        for number in (0, 1, 9, 10, 9999, 65535):
            self.assert_body(f"return {number}", (("return", ("number", number)),))
        for local in range(4):
            self.assert_body(f"return l{local}", (("return", ("local", local)),))
        for sign in OPERATORS:
            self.assert_body(f"return {sign} 1 l2", (("return", (sign, ("number", 1), ("local", 2))),))
        self.assert_body("return get b0 l1", (("return", ("get", 0, ("local", 1))),), buffers=[[5]])

    def test_the_examples_of_the_document(self):
        component = read_component("room 9 procedures 1 procedure 2 set l1 + l0 1 return l1 end", 0)
        block = (("set", 1, ("+", ("local", 0), ("number", 1))), ("return", ("local", 1)))
        self.assertEqual(component.procedures, ((2, block),))
        with self.assertRaises(BadText) as caught:
            read_component("room 9 procedures 1 procedure 1 put b0 0 1 end", 0)
        self.assertEqual(caught.exception.at, 6)

    def test_components_made_by_chance_are_read_as_they_were_written(self):
        chance = Chance(1)
        for round_ in range(300):
            imports = round_ % 9
            component = chance.component(imports)
            self.assertEqual(read_component(component_text(component), imports), component)


class WrongWordTest(LanguageTestCase):
    def test_every_beginning_lacks_a_word(self):
        words = RICH_TEXT.split(" ")
        for count in range(len(words)):
            self.assert_fault(" ".join(words[:count]), count, RICH_IMPORTS)

    def test_the_empty_text(self):
        self.assert_fault("", 0)

    def test_every_beginning_of_components_made_by_chance(self):
        chance = Chance(2)
        for _ in range(12):
            words = component_text(chance.component(2)).split(" ")
            for count in range(len(words)):
                self.assertEqual(fault_of(" ".join(words[:count]), 2), count)

    def test_a_word_that_fits_nowhere_at_every_place(self):
        words = RICH_TEXT.split(" ")
        for at in range(len(words)):
            for misfit in MISFITS:
                self.assertEqual(fault_of(" ".join(words[:at] + [misfit] + words[at + 1:]), RICH_IMPORTS), at)
                self.assertEqual(fault_of(" ".join(words[:at] + [misfit]), RICH_IMPORTS), at)

    def test_one_word_more(self):
        count = len(RICH_TEXT.split(" "))
        for word in ("", "end", "procedure", "buffer", "room", "set", "else", "0", "l0", "?"):
            self.assert_fault(f"{RICH_TEXT} {word}", count, RICH_IMPORTS)

    def test_empty_words(self):
        text = "room 5 procedures 1 procedure 1 return 0 end"
        self.assertIsNone(fault_of(text, 0))
        self.assert_fault(" " + text, 0)
        self.assert_fault(text + " ", 9)
        self.assert_fault(text.replace("1 return", "1  return"), 6)
        self.assert_fault(" ", 0)

    def test_words_of_the_frame(self):
        self.assert_fault("procedures 1 room 5", 0)
        self.assert_fault("room procedures", 1)
        self.assert_fault("room 5 procedure 1", 2)
        self.assert_fault("room 5 procedures buffer", 3)
        self.assert_fault("room 5 procedures 1 end", 4)
        self.assert_fault("room 5 procedures 1 procedures", 4)
        self.assert_fault("room 5 procedures 1 buffer procedure", 5)
        self.assert_fault("room 5 procedures 1 buffer 1 l0", 6)
        self.assert_fault("room 5 procedures 1 procedure end", 5)
        self.assert_fault("room 5 procedures 1 procedure 1 procedure", 6)
        self.assert_fault("room 5 procedures 1 procedure 1 buffer", 6)
        self.assert_fault("room 5 procedures 2 procedure 1 end buffer 1 0 procedure 1 end", 7)

    def test_words_of_statements(self):
        buffers = [[5]]
        self.assert_body_fault("1", 0)
        self.assert_body_fault("l0", 0)
        self.assert_body_fault("+ 1 2", 0)
        self.assert_body_fault("get b0 0", 0, buffers=buffers)
        self.assert_body_fault("else", 0)
        self.assert_body_fault("set set", 1)
        self.assert_body_fault("set 0 1", 1)
        self.assert_body_fault("set b0 1", 1, buffers=buffers)
        self.assert_body_fault("set l0 end", 2)
        self.assert_body_fault("set l0 return", 2)
        self.assert_body_fault("set l0 b0", 2, buffers=buffers)
        self.assert_body_fault("set l0 p0", 2)
        self.assert_body_fault("set l0 i0", 2, imports=1)
        self.assert_body_fault("set l0 1 2", 3)
        self.assert_body_fault("put l0 0 0", 1, buffers=buffers)
        self.assert_body_fault("put b0 b0 0", 2, buffers=buffers)
        self.assert_body_fault("put b0 0 end", 3, buffers=buffers)
        self.assert_body_fault("put b0 0 0 0", 4, buffers=buffers)
        self.assert_body_fault("call p0 l0 0", 1)
        self.assert_body_fault("call l0 i0 0", 2, imports=1)
        self.assert_body_fault("call l0 l0 0", 2)
        self.assert_body_fault("call l0 p0 end", 3)
        self.assert_body_fault("use i0 l0 0", 1, imports=1)
        self.assert_body_fault("use l0 p0 0", 2, imports=1)
        self.assert_body_fault("use l0 i0 end", 3, imports=1)
        self.assert_body_fault("if end", 1)
        self.assert_body_fault("while else", 1)
        self.assert_body_fault("while 1 else", 2)
        self.assert_body_fault("while 1 set l0 1 else", 5)
        self.assert_body_fault("return end", 1)
        self.assert_body_fault("return 1 1", 2)
        self.assert_body_fault("return get 0 0", 2, buffers=buffers)
        self.assert_body_fault("return + 1 end", 3)
        self.assert_body_fault("return + end", 2)

    def test_put_and_get_without_buffers(self):
        self.assert_body_fault("put b0 0 1", 0)
        self.assert_body_fault("if 1 put b0 0 1 end", 2)
        self.assert_body_fault("set l0 1 while 1 put", 5)
        self.assert_body_fault("if 1 else put b0 0 1 end", 3)
        self.assert_body_fault("if 1 set l0 1 else put", 6)
        self.assert_body_fault("return get b0 0", 1)
        self.assert_body_fault("set l0 + 1 get b0 0", 4)
        self.assert_body_fault("while get", 1)
        self.assert_body("put b0 0 get b0 1", (("put", 0, ("number", 0), ("get", 0, ("number", 1))),), buffers=[[5]])

    def test_use_without_imports(self):
        self.assert_body_fault("use l0 i0 1", 0)
        self.assert_body_fault("set l0 1 use", 3)
        self.assert_body_fault("while 1 use l0 i0 1 end", 2)
        self.assert_body_fault("if 1 else use l0 i0 1 end", 3)
        self.assert_body("use l0 i0 1", (("use", 0, 0, ("number", 1)),), imports=1)

    def test_else(self):
        self.assert_body_fault("if 1 else end", 3)
        self.assert_body_fault("if 1 set l0 1 else end", 6)
        self.assert_body_fault("if 1 else else", 3)
        self.assert_fault("room 5 procedures 1 procedure 1 if 1 else", 9)
        self.assert_body_fault("if 1 else 0 end", 3)
        self.assert_body_fault("if 1 set l0 1 else set l0 2 else set l0 3 end", 9)
        self.assert_body_fault("if 1 if 1 else end end", 5)
        self.assert_body("if 1 else if 1 end end", (("if", ("number", 1), (), (("if", ("number", 1), (), ()),)),))


class BoundsTest(LanguageTestCase):
    def test_room(self):
        for room in (0, 1, 19999, 20000):
            self.assertEqual(self.assert_read(with_body("", room=room)).room, room)
        for room in (20001, 65535, 65536, "00", "-1", "l0"):
            self.assert_fault(with_body("", room=room), 1)

    def test_procedures(self):
        for count in (1, 2, 8):
            text = f"room 5 procedures {count}" + " procedure 1 end" * count
            self.assertEqual(self.assert_read(text).procedures, ((1, ()),) * count)
            # One too few and one too many.
            self.assert_fault(text[: -len(" procedure 1 end")], 4 + 3 * (count - 1))
            self.assert_fault(text + " procedure 1 end", 4 + 3 * count)
        for count in (0, 9, 10, 65535, "01", "08"):
            self.assert_fault(f"room 5 procedures {count} procedure 1 end", 3)

    def test_buffers(self):
        for count in (0, 1, 7, 8):
            component = self.assert_read(with_body("", buffers=[[at, 3] for at in range(count)]))
            self.assertEqual(component.buffers, tuple([(at, 3) for at in range(count)]))
        for count in (9, 10):
            self.assert_fault(with_body("", buffers=[[at, 3] for at in range(count)]), 4 + 8 * 4)

    def test_the_size_of_a_buffer(self):
        for size in (1, 2, 999, 1000):
            words = [at * 7 for at in range(size)]
            self.assertEqual(self.assert_read(with_body("", buffers=[[1], words, [2]])).buffers[1], tuple(words))
        self.assert_fault("room 5 procedures 1 buffer 0 procedure 1 end", 5)
        self.assert_fault("room 5 procedures 1 buffer 0", 5)
        self.assert_fault(with_body("", buffers=[[0] * 1001]), 5)
        self.assert_fault("room 5 procedures 1 buffer 1001", 5)

    def test_the_words_of_a_buffer(self):
        for word in (0, 1, 65535):
            self.assertEqual(self.assert_read(with_body("", buffers=[[word]])).buffers, ((word,),))
        for word in (65536, "00", "l0", "procedure", ""):
            self.assert_fault(with_body("", buffers=[[3, word, 3]]), 7)

    def test_a_word_too_few_and_one_too_many(self):
        for size in (1, 2, 999, 1000):
            few = " ".join(["5"] * (size - 1) + ["procedure 1 end"])
            self.assert_fault(f"room 5 procedures 1 buffer {size} {few}", 6 + size - 1)
            many = " ".join(["5"] * (size + 1) + ["procedure 1 end"])
            self.assert_fault(f"room 5 procedures 1 buffer {size} {many}", 6 + size)
            self.assert_fault(f"room 5 procedures 1 buffer {size}" + " 5" * (size - 1), 6 + size - 1)

    def test_locals(self):
        for count in (1, 2, 15, 16):
            self.assertEqual(self.assert_read(with_body("", locals_=count)).procedures, ((count, ()),))
        for count in (0, 17, 65535, 65536, "01"):
            self.assert_fault(with_body("", locals_=count), 5)

    def test_the_depth_of_expressions(self):
        for place in ("left", "right", "get"):
            for begin, more in (
                ("set l1", ""), ("put b0", " 0"), ("put b0 0", ""), ("call l0 p0", ""), ("use l0 i0", ""),
                ("if", " end"), ("while", " end"), ("return", ""),
            ):
                for depth in (1, 2, 3, 4):
                    self.assert_read(with_body(f"{begin} {deep(depth, place)}{more}", buffers=[[5]]), 1)
                # The sign that begins the part that would have depth 2, where only depth 1 is left.
                words = f"{begin} {deep(5, place)}".split(" ")
                at = max([at for at, word in enumerate(words) if word in ("+", "<", "get")])
                self.assert_body_fault(f"{begin} {deep(5, place)}{more}", at, imports=1, buffers=[[5]])

    def test_each_operator_where_only_depth_1_is_left(self):
        for sign in OPERATORS:
            self.assert_body_fault(f"return + + + {sign} 1 1 1 1 1", 4)
            self.assert_body_fault(f"return + 1 + 1 + 1 {sign} 1 1", 7)
            self.assert_body_fault(f"return {sign} 1 {sign} 1 {sign} 1 {sign} 1 1", 7)
        self.assert_body_fault("return + + + get b0 0 1 1 1", 4, buffers=[[5]])
        self.assert_body_fault("return + 1 + 1 + 1 get b0 0", 7, buffers=[[5]])
        self.assert_body_fault("return get b0 get b0 get b0 get b0 0", 7, buffers=[[5]])

    def test_the_depth_of_if_and_while(self):
        for words in (
            ["if"] * 6, ["while"] * 6, ["else"] * 6, ["if", "while"] * 3, ["while", "if"] * 3,
            ["else", "while"] * 3, ["while", "else", "if"] * 2,
        ):
            body = nested(words, "set l0 1")
            self.assert_read(with_body(body))
            at = body.split(" ").index("set")
            for word in ("if", "while"):
                self.assert_body_fault(nested(words, f"{word} 1 end"), at)
                self.assert_body_fault(nested(words, f"set l0 1 {word} 1 end"), at + 3)
                self.assert_body_fault(nested(words, f"set l0 1 {word}"), at + 3)

    def test_an_empty_if_or_while_at_depth_6_and_7(self):
        for word in ("if", "while"):
            self.assert_read(with_body(nested([word] * 6, "")))
            self.assert_body_fault(nested([word] * 7, ""), 12)

    def test_the_depth_ends_with_the_statement(self):
        six = nested(["if"] * 6, "")
        self.assert_read(with_body(f"{six} {six} {nested(['while'] * 6, '')}"))
        self.assert_read(with_body(nested(["if"] * 5, "if 1 end while 1 end if 1 end")))
        self.assert_read(with_body(nested(["else"] * 5, "if 1 end while 1 end if 1 end")))

    def test_an_if_at_depth_7_in_an_else_at_depth_6(self):
        body = nested(["if"] * 5, "if 1 set l0 1 else return 0 end")
        self.assert_read(with_body(body))
        at = body.split(" ").index("return")
        self.assert_body_fault(body.replace("return 0", "if 0 end"), at)
        self.assert_body_fault(body.replace("return 0", "return 0 while 0 end"), at + 2)

    def test_the_last_local_and_the_next_one(self):
        places = ("set {} 1", "call {} p0 1", "use {} i0 1", "return {}", "return + 1 {}", "return get b0 {}")
        places = places + ("put b0 {} 0", "put b0 0 {}", "if {} end", "while {} end", "set l0 {}")
        for place in places:
            for count in (1, 2, 15, 16):
                at = place.split(" ").index("{}")
                self.assert_read(with_body(place.format(f"l{count - 1}"), locals_=count, buffers=[[5]]), 1)
                for number in (count, count + 1, 65535):
                    body = place.format(f"l{number}")
                    self.assert_body_fault(body, at, imports=1, locals_=count, buffers=[[5]])

    def test_each_procedure_has_its_own_locals(self):
        self.assert_read("room 5 procedures 2 procedure 1 return l0 end procedure 3 return l2 end")
        self.assert_fault("room 5 procedures 2 procedure 3 return l2 end procedure 2 return l2 end", 12)
        self.assert_fault("room 5 procedures 2 procedure 2 return l2 end procedure 3 return l2 end", 7)

    def test_the_last_buffer_and_the_next_one(self):
        for count in (1, 2, 8):
            buffers = [[5]] * count
            self.assert_read(with_body(f"put b{count - 1} 0 get b{count - 1} 0", buffers=buffers))
            for number in (count, count + 1, 65535):
                self.assert_body_fault(f"put b{number} 0 1", 1, buffers=buffers)
                self.assert_body_fault(f"return get b{number} 0", 2, buffers=buffers)

    def test_the_last_procedure_and_the_next_one(self):
        for count in (1, 2, 8):
            more = ["procedure 1 end"] * (count - 1)
            self.assert_read(with_body(f"call l0 p{count - 1} 0", more=more))
            for number in (count, count + 1, 65535):
                self.assert_body_fault(f"call l0 p{number} 0", 2, more=more)

    def test_the_last_import_and_the_next_one(self):
        for count in (1, 2, 8):
            self.assert_read(with_body(f"use l0 i{count - 1} 0"), count)
            for number in (count, count + 1, 65535):
                self.assert_body_fault(f"use l0 i{number} 0", 2, imports=count)


if __name__ == "__main__":
    unittest.main()
