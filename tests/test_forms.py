"""The forms and orders behind [35] to [41]."""

import unittest

from recordyard.formatters import Formatter
from recordyard.forms import LEVEL_MARK, MESSAGE_MARK, NAME_MARK, filled, form_at_level, form_of_line, form_of_text, parts_of, text_of_form
from recordyard.orders import is_record_name, line_up, name_order, next_word


class Forms(unittest.TestCase):
    def test_lines(self):
        self.assertEqual(parts_of(form_of_line(None, "\n")), (("message",), "\n"))
        form = form_of_line(Formatter("{name}-{levelname} {message}", validate=False), "!")
        self.assertEqual(parts_of(form_at_level(form, {20: "INFO"}, 20)), (("name",), "-INFO ", ("message",), "!"))
        self.assertEqual(parts_of(form_at_level(form, {20: "INFO"}, 21)), (("name",), "-Level 21 ", ("message",), "!"))
        self.assertEqual(parts_of(form_at_level(form, {20: "INFO"}, 0)), (("name",), "-Level ", ("level",), " ", ("message",), "!"))
        self.assertEqual(parts_of(""), ())

    def test_tabs_in_texts_are_no_marks(self):
        for text in ("\t", "\tn", "\tt", "\t\tm", "a\tl\tw", "t\t"):
            form = form_of_line(Formatter(text + "{name}", validate=False), text)
            self.assertEqual(parts_of(form), (text, ("name",), text))
            self.assertEqual(text_of_form(form_of_text(text)), text)
            named = filled({"s": form}, NAME_MARK, "x")["s"]
            self.assertEqual((parts_of(named), text_of_form(named)), ((text + "x" + text,), text + "x" + text))
            self.assertEqual(filled({"s": form_of_text(text)}, MESSAGE_MARK, "y"), {"s": form_of_text(text)})
            self.assertEqual(form_at_level(form_of_text("{}"), {5: text}, 5), "{}")
            self.assertEqual(text_of_form(form_at_level("\tw", {5: text}, 5)), text)

    def test_filling(self):
        forms = {"a": MESSAGE_MARK, "b": LEVEL_MARK + MESSAGE_MARK}
        self.assertEqual(filled(forms, MESSAGE_MARK, ""), {"b": LEVEL_MARK})
        self.assertEqual(filled(forms, LEVEL_MARK, "7"), {"a": MESSAGE_MARK, "b": "7" + MESSAGE_MARK})
        self.assertEqual(forms, {"a": MESSAGE_MARK, "b": LEVEL_MARK + MESSAGE_MARK})


class Orders(unittest.TestCase):
    def test_names_of_records(self):
        for name in ("", "a", "zz", "a.b", "a.root", "roots", "roo", "x.y.z.x.y.z.x.y.z.x"):
            self.assertTrue(is_record_name(name), name)
        for name in (".", "a.", ".a", "a..b", "A", "a.B", "a1", "a_b", "root", "root.a", " ", "a b", "a\n", "{"):
            self.assertFalse(is_record_name(name), name)

    def test_the_order_of_names(self):
        names = ["", "a", "b", "aa", "zzz", "aaaa", "a.b", "b.a", "a.bb", "aa.b", "a.a.a"]
        self.assertEqual(sorted(names[::-1], key=name_order), names)

    def test_beginnings(self):
        self.assertEqual(line_up(""), [""])
        self.assertEqual(line_up("a.bc.d"), ["a.bc.d", "a.bc", "a", ""])
        self.assertEqual(line_up(".a."), [".a.", ".a", ""])

    def test_words_follow_upon_one_another(self):
        word, words = "", []
        for _ in range(26 + 26 ** 2 + 1):
            word = next_word(word)
            words.append(word)
        self.assertEqual(words, sorted(set(words), key=lambda one: (len(one), one)))
        self.assertEqual((words[0], words[25], words[26], words[-2], words[-1]), ("a", "z", "aa", "zz", "aaa"))
