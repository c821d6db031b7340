import unittest

from grammar import RESERVED
from indoubt import errors
from indoubt.tokens import is_name, tokens_of

SYMBOLS = ("!=", "<=", ">=", "(", ")", ",", ";", "|", "=", "<", ">", "+", "-", ":")


class TokenCase(unittest.TestCase):
    def values(self, text):
        """The values of the tokens, of which each has to be found at its place again."""
        tokens = tokens_of(text)
        self.assertIs(type(tokens), tuple)
        for token in tokens:
            kind, value, place = token
            if kind == "number":
                self.assertTrue(text[place].isdigit() and not text[place - 1:place].isdigit())
            elif kind == "string":
                self.assertTrue(text.startswith("'" + value.replace("'", "''") + "'", place))
            else:
                self.assertTrue(text.startswith(value, place))
        return [value for _, value, _ in tokens]

    def check(self, text, error, place):
        with self.subTest(text=text):
            with self.assertRaises(errors.TextError) as caught:
                tokens_of(text)
            self.assertEqual((type(caught.exception).__name__, caught.exception.place), (error, place))


class Division(TokenCase):
    def test_kinds_values_and_places(self):
        self.assertEqual(tokens_of("where a_1 >= 07 'x'"), (
            ("word", "where", 0), ("word", "a_1", 6), ("symbol", ">=", 10), ("number", 7, 13), ("string", "x", 16)))

    def test_no_tokens(self):
        for text in ("", " ", "\n", " \n \n\n  "):
            self.assertEqual(tokens_of(text), ())

    def test_blanks_are_ignored_but_count_for_places(self):
        self.assertEqual(tokens_of("\n\na \n b  "), (("word", "a", 2), ("word", "b", 6)))

    def test_tokens_without_blanks_between_them(self):
        self.assertEqual(tokens_of("a<=1!='b'c(2"), (
            ("word", "a", 0), ("symbol", "<=", 1), ("number", 1, 3), ("symbol", "!=", 4), ("string", "b", 6),
            ("word", "c", 9), ("symbol", "(", 10), ("number", 2, 11)))

    def test_a_number_ends_where_a_word_begins(self):
        self.assertEqual(tokens_of("12ab3"), (("number", 12, 0), ("word", "ab3", 2)))
        self.assertEqual(self.values("9check"), [9, "check"])

    def test_a_word_goes_on_with_digits_and_underscores(self):
        self.assertEqual(self.values("a1 a_ b__2 a1b"), ["a1", "a_", "b__2", "a1b"])
        self.assertEqual(self.values("limit9 selecta"), ["limit9", "selecta"])

    def test_each_symbol(self):
        for symbol in SYMBOLS:
            self.assertEqual(tokens_of(f" {symbol} "), (("symbol", symbol, 1),))
            self.assertEqual(tokens_of(f"a{symbol}1"), (
                ("word", "a", 0), ("symbol", symbol, 1), ("number", 1, 1 + len(symbol))))

    def test_tokens_are_as_long_as_possible(self):
        self.assertEqual(self.values("<=>=!=<>=<=="), ["<=", ">=", "!=", "<", ">=", "<=", "="])
        self.assertEqual(self.values("< = > = --"), ["<", "=", ">", "=", "-", "-"])
        self.assertEqual(self.values("=<=>"), ["=", "<=", ">"])

    def test_reserved_words_are_words(self):
        for word in RESERVED:
            self.assertEqual(tokens_of(word), (("word", word, 0),))


class Strings(TokenCase):
    def test_strings(self):
        self.assertEqual(self.values("'' 'a b' '(;' '12' '\"#A~' ' '"), ["", "a b", "(;", "12", "\"#A~", " "])
        self.assertEqual(tokens_of("'12'"), (("string", "12", 0),))

    def test_doubled_apostrophes(self):
        self.assertEqual(self.values("'it''s'"), ["it's"])
        self.assertEqual(self.values("''''"), ["'"])
        self.assertEqual(self.values("'''''a'''"), ["''a'"])
        self.assertEqual(tokens_of("'a''' 'b'"), (("string", "a'", 0), ("string", "b", 6)))

    def test_two_strings_need_a_blank_between_them(self):
        self.assertEqual(self.values("'a' 'b'"), ["a", "b"])
        self.assertEqual(self.values("'a'\n'b'"), ["a", "b"])
        self.assertEqual(self.values("'a''b'"), ["a'b"])

    def test_strings_of_20_and_21_characters(self):
        self.assertEqual(self.values("'" + "x" * 20 + "'"), ["x" * 20])
        self.check("a '" + "x" * 21 + "'", "StringTooLong", 2)

    def test_an_apostrophe_that_is_written_twice_is_one_character(self):
        self.assertEqual(self.values("'" + "''" * 20 + "'"), ["'" * 20])
        self.assertEqual(self.values("'" + "x''" * 10 + "'"), ["x'" * 10])
        self.check("'" + "''" * 21 + "'", "StringTooLong", 0)
        self.check("'" + "x" * 20 + "''" + "'", "StringTooLong", 0)

    def test_strings_that_are_not_closed(self):
        self.check("'", "StringNotClosed", 0)
        self.check("a = 'abc", "StringNotClosed", 4)
        self.check("'''", "StringNotClosed", 0)
        self.check("'abc''", "StringNotClosed", 0)
        self.check("'a' '", "StringNotClosed", 4)
        self.check(" '" + "x" * 30, "StringNotClosed", 1)
        self.check(" '" + "x" * 20 + "''", "StringNotClosed", 1)

    def test_a_line_feed_in_a_string_is_found_first(self):
        self.check("'a\nb'", "UnexpectedCharacter", 2)
        self.check("'\n", "UnexpectedCharacter", 1)
        self.check("b 'a\nb", "UnexpectedCharacter", 4)
        self.check("'" + "x" * 25 + "\n'", "UnexpectedCharacter", 26)
        self.check("'" + "x" * 25 + "\n", "UnexpectedCharacter", 26)
        self.check("'a''\n'", "UnexpectedCharacter", 4)
        self.assertEqual(self.values("'a'\n'b'"), ["a", "b"])


class Numbers(TokenCase):
    def test_leading_zeros(self):
        self.assertEqual(self.values("0 00 007 0000000 0000012 0999999"), [0, 0, 7, 0, 12, 999999])

    def test_seven_and_eight_digits(self):
        self.assertEqual(self.values("0000001"), [1])
        self.check("00000001", "NumberTooLarge", 0)
        self.check("a - 00000000", "NumberTooLarge", 4)
        self.check("1" * 300, "NumberTooLarge", 0)

    def test_the_largest_number(self):
        self.assertEqual(self.values("999999 1000000"), [999999, 1000000])
        self.check("1000001", "NumberTooLarge", 0)
        self.check("-1000001", "NumberTooLarge", 1)
        self.check("9999999", "NumberTooLarge", 0)

    def test_two_numbers_need_a_blank_between_them(self):
        self.assertEqual(self.values("1000000 1"), [1000000, 1])


class Words(TokenCase):
    def test_words_of_16_and_17_characters(self):
        self.assertEqual(self.values("a" * 16), ["a" * 16])
        self.assertEqual(self.values("a" + "_9" * 7 + "z"), ["a" + "_9" * 7 + "z"])
        self.check("a" * 17, "NameTooLong", 0)
        self.check("1 + b" + "_9" * 8, "NameTooLong", 4)
        self.check("implies" + "implies" + "and", "NameTooLong", 0)


class Characters(TokenCase):
    def test_characters_with_which_no_token_begins(self):
        for character in "\"#$&*./?@[\\]^_`{}~ABCMXYZ":
            self.check(character, "UnexpectedCharacter", 0)
            self.check("ab " + character + " cd", "UnexpectedCharacter", 3)
            self.check("ab+" + character, "UnexpectedCharacter", 3)

    def test_an_exclamation_mark_needs_an_equals_sign(self):
        self.check("!", "UnexpectedCharacter", 0)
        self.check("a ! = 1", "UnexpectedCharacter", 2)
        self.check("a !\n= 1", "UnexpectedCharacter", 2)
        self.check("a!!=1", "UnexpectedCharacter", 1)
        self.check("a !", "UnexpectedCharacter", 2)

    def test_the_first_place_is_the_error(self):
        self.check("# 1000001", "UnexpectedCharacter", 0)
        self.check("1000001 #", "NumberTooLarge", 0)
        self.check("'abc # 1000001", "StringNotClosed", 0)
        self.check("a" * 17 + "#", "NameTooLong", 0)
        self.check("12345678#", "NumberTooLarge", 0)
        self.check("'" + "x" * 21 + "'#", "StringTooLong", 0)

    def test_errors_are_of_their_own_classes(self):
        names = ("UnexpectedCharacter", "NameTooLong", "NumberTooLarge", "StringNotClosed", "StringTooLong",
                 "UnexpectedToken", "NestedTooDeeply")
        texts = ("#", "a" * 17, "1000001", "'", "'" + "x" * 21 + "'")
        for name, text in zip(names, texts):
            for other in names:
                with self.subTest(name=name, other=other):
                    with self.assertRaises(errors.TextError) as caught:
                        tokens_of(text)
                    self.assertIsInstance(caught.exception, errors.IndoubtError)
                    self.assertIsInstance(caught.exception, ValueError)
                    self.assertEqual(isinstance(caught.exception, getattr(errors, other)), name == other)


class Names(unittest.TestCase):
    def test_names(self):
        for text in ("a", "z", "t1", "a_", "a" * 16, "account", "row", "when", "x" + "_9" * 7 + "0"):
            self.assertIs(is_name(text), True, text)

    def test_what_is_no_name(self):
        for text in ("", "_a", "1a", "1", "A", "aB", "a b", " a", "a ", "a-b", "'a'", "a\n", "a" * 17, "a" * 2000, "("):
            self.assertIs(is_name(text), False, text)

    def test_each_reserved_word_is_no_name(self):
        self.assertEqual(len(set(RESERVED)), 39)
        for word in RESERVED:
            self.assertIs(is_name(word), False, word)

    def test_names_that_begin_with_a_reserved_word(self):
        for word in RESERVED:
            for name in (word + "s", word + "_", word + "1"):
                self.assertIs(is_name(name), True, name)


if __name__ == "__main__":
    unittest.main()
