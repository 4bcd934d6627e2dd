import unittest

from heappacts.errors import TextFault
from heappacts.words import tokens
from helpers import Case

KEYWORDS = ("procedure", "return", "if", "else", "while", "new", "free", "first", "second")
SIGNS = ("(", ")", "{", "}", ",", ";", ".", "=", "!=")


class Tokens(Case):
    def test_no_text(self):
        self.exact(tokens(""), (("end", "", 1, 1),))

    def test_keywords(self):
        for word in KEYWORDS:
            self.exact(tokens(word), (("word", word, 1, 1), ("end", "", 1, len(word) + 1)))

    def test_names_that_are_nearly_keywords(self):
        for word in ("procedur", "iff", "i", "news", "ne", "firsts", "seconds", "if0", "returns", "whil"):
            self.exact(tokens(word), (("name", word, 1, 1), ("end", "", 1, len(word) + 1)))

    def test_signs(self):
        for sign in SIGNS:
            self.exact(tokens(sign), (("sign", sign, 1, 1), ("end", "", 1, len(sign) + 1)))

    def test_signs_side_by_side(self):
        found = tokens("".join(SIGNS))
        self.exact(tuple(token[1] for token in found), SIGNS + ("",))
        self.exact(tuple(token[3] for token in found), (1, 2, 3, 4, 5, 6, 7, 8, 9, 11))

    def test_unlike_and_equal_side_by_side(self):
        self.exact(tokens("=!==!="), (
            ("sign", "=", 1, 1), ("sign", "!=", 1, 2), ("sign", "=", 1, 4), ("sign", "!=", 1, 5),
            ("end", "", 1, 7)))

    def test_numbers(self):
        for number in range(100):
            text = str(number)
            self.exact(tokens(text), (("number", number, 1, 1), ("end", "", 1, len(text) + 1)))

    def test_names(self):
        for name in ("a", "z", "ab", "a1", "z09", "abcd", "abcde", "abcdef", "abcdefg", "abcdefgh", "a1234567"):
            self.exact(tokens(name), (("name", name, 1, 1), ("end", "", 1, len(name) + 1)))

    def test_all_letters_and_digits_in_names(self):
        for letter in "abcdefghijklmnopqrstuvwxyz":
            self.exact(tokens(letter)[0], ("name", letter, 1, 1))
        for digit in "0123456789":
            self.exact(tokens("x" + digit)[0], ("name", "x" + digit, 1, 1))

    def test_spaces_and_newlines(self):
        self.exact(tokens(" "), (("end", "", 1, 2),))
        self.exact(tokens("\n"), (("end", "", 2, 1),))
        self.exact(tokens("\n\n  "), (("end", "", 3, 3),))
        self.exact(tokens("  a\n\n 12 if\nb"), (
            ("name", "a", 1, 3), ("number", 12, 3, 2), ("word", "if", 3, 5), ("name", "b", 4, 1),
            ("end", "", 4, 2)))

    def test_spaces_separate(self):
        self.exact(tokens("a b"), (("name", "a", 1, 1), ("name", "b", 1, 3), ("end", "", 1, 4)))
        self.exact(tokens("1 2"), (("number", 1, 1, 1), ("number", 2, 1, 3), ("end", "", 1, 4)))
        self.exact(tokens("1\n2"), (("number", 1, 1, 1), ("number", 2, 2, 1), ("end", "", 2, 2)))
        self.exact(tokens("5 a"), (("number", 5, 1, 1), ("name", "a", 1, 3), ("end", "", 1, 4)))

    def test_without_spaces(self):
        self.exact(tokens("x=a.first;"), (
            ("name", "x", 1, 1), ("sign", "=", 1, 2), ("name", "a", 1, 3), ("sign", ".", 1, 4),
            ("word", "first", 1, 5), ("sign", ";", 1, 10), ("end", "", 1, 11)))
        self.exact(tokens("(7,12)"), (
            ("sign", "(", 1, 1), ("number", 7, 1, 2), ("sign", ",", 1, 3), ("number", 12, 1, 4),
            ("sign", ")", 1, 6), ("end", "", 1, 7)))

    def test_remarks(self):
        self.exact(tokens("#"), (("end", "", 1, 2),))
        self.exact(tokens("# all of it"), (("end", "", 1, 12),))
        self.exact(tokens("a # b\nc"), (("name", "a", 1, 1), ("name", "c", 2, 1), ("end", "", 2, 2)))
        self.exact(tokens("a#b"), (("name", "a", 1, 1), ("end", "", 1, 4)))
        self.exact(tokens("5#a"), (("number", 5, 1, 1), ("end", "", 1, 4)))
        self.exact(tokens("=#=\n#=#\n=#"), (("sign", "=", 1, 1), ("sign", "=", 3, 1), ("end", "", 3, 3)))

    def test_remarks_have_no_faults(self):
        self.exact(tokens("a # ! A 100 5a abcdefghijk $~\n1"), (
            ("name", "a", 1, 1), ("number", 1, 2, 1), ("end", "", 2, 2)))

    def test_place_of_the_end(self):
        for text, place in (("a", (1, 2)), ("a ", (1, 3)), ("a\n", (2, 1)), ("a\n ", (2, 2)), ("a #", (1, 4)),
                            ("a #b\n", (2, 1))):
            self.exact(tokens(text)[-1], ("end", "") + place)


class Faults(Case):
    def refused(self, text, line, column, reason):
        self.fault(TextFault, {"line": line, "column": column, "reason": reason}, tokens, text)

    def test_name_too_long(self):
        for word in ("abcdefghi", "a12345678", "procedures", "procedur1", "abcdefghijklmnop"):
            self.refused(word, 1, 1, "name too long")
            self.refused("a\n  " + word + " x", 2, 3, "name too long")
        self.exact(tokens("procedure")[0], ("word", "procedure", 1, 1))

    def test_number_too_large(self):
        for digits in ("00", "05", "09", "100", "000", "001", "999", "1234567890"):
            self.refused(digits, 1, 1, "number too large")
            self.refused("x = " + digits + ";", 1, 5, "number too large")

    def test_number_ends_here(self):
        self.refused("5a", 1, 2, "number ends here")
        self.refused("0x", 1, 2, "number ends here")
        self.refused("99z", 1, 3, "number ends here")
        self.refused("\n 12if", 2, 4, "number ends here")
        self.refused("5abcdefghijk", 1, 2, "number ends here")

    def test_too_large_is_asked_before_ends_here(self):
        for text in ("100a", "00a", "05a", "123abc"):
            self.refused(text, 1, 1, "number too large")

    def test_unknown_characters(self):
        known = "abcdefghijklmnopqrstuvwxyz0123456789(){},;.= #"
        for code in range(32, 127):
            if chr(code) not in known:
                self.refused(chr(code), 1, 1, "unknown character")
                self.refused("a" + chr(code), 1, 2, "unknown character")
                self.refused("\n 5" + chr(code) + "x", 2, 3, "unknown character")
        for character in ("\t", "\r", "\x00", "\x7f", "\u00e9", "\u00df", "\u00b2", "\u0663", "\u00a0", "\u2028"):
            self.refused(" " + character, 1, 2, "unknown character")

    def test_mark_without_equal(self):
        for text in ("!", "! =", "!a", "!!=", "!\n="):
            self.refused(text, 1, 1, "unknown character")
        self.refused("!=!", 1, 3, "unknown character")

    def test_the_first_fault_counts(self):
        self.refused("A 100", 1, 1, "unknown character")
        self.refused("100 A", 1, 1, "number too large")
        self.refused("a 5a abcdefghi", 1, 4, "number ends here")
        self.refused("abcdefghi\n5a", 1, 1, "name too long")
        self.refused("x\n! A", 2, 1, "unknown character")
        self.refused("abcdefghiA", 1, 1, "name too long")
        self.refused("5A", 1, 2, "unknown character")

    def test_columns_behind_a_remark(self):
        self.refused("# A\n\n  A", 3, 3, "unknown character")

    def test_longest_text(self):
        self.exact(tokens(" " * 6000), (("end", "", 1, 6001),))
        self.exact(tokens("#" * 6000), (("end", "", 1, 6001),))
        self.exact(tokens("\n" * 6000), (("end", "", 6001, 1),))
        self.assertEqual(len(tokens("=" * 6000)), 6001)
        for text in (" " * 6001, "#" * 6001, "\n" * 6001, "=" * 6001, " " * 9000):
            self.refused(text, 1, 1, "text too long")

    def test_too_long_comes_before_all_others(self):
        for text in ("A" + " " * 6000, " " * 6000 + "A", "100" * 3000, "a" * 6001, "5a" + "\n" * 6000):
            self.refused(text, 1, 1, "text too long")
        self.refused(" " * 5999 + "A", 1, 6000, "unknown character")


if __name__ == "__main__":
    unittest.main()
