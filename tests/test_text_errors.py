import random
import unittest

from grammar import ORACLES, VOCABULARY, fits, text_of
from indoubt import errors, printer, reader

READERS = {
    "schema": reader.read_schema, "query": reader.read_query, "script": reader.read_script, "fact": reader.read_fact,
}
PRINTERS = {
    "schema": printer.show_schema, "query": printer.show_query, "script": printer.show_script,
    "fact": printer.show_fact,
}
# Texts that use all rules of the grammar together, with blanks between all tokens.
EXAMPLES = {
    "schema": (
        "table t ( a integer , b string ) key a , b limit 9 check a = 1 check not b != 'x' or true "
        "reference a to t reference a , b to u ; table u ( c integer ) key c limit 60 ; view v = t ; "
        "view w = ( t | join u ) | where a < 2 ; deny d = v ; deny e = v | select a ;",
        "table t ( a integer ) key a limit 9 ; deny d = t ;",
    ),
    "query": (
        "( t | union u ) | where not ( a = 1 and b <= - 2 ) or a >= 'x' implies false | select a , b = a + 1 - - 2 "
        "| join ( u | without t ) | minus t | matching u | group by a , b : n = count , s = sum a , l = least b "
        "| group : g = greatest l",
        "t | where true | where a + 'x' > 1 and ( b = 2 ) | group : n = count | without ( ( t ) )",
    ),
    "script": (
        "insert t ( 1 , - 2 , 'x' ) , ( 'y' ) ; insert t from u | where a = 1 ; "
        "update t set a = a + 1 , b = 'x' where not a = 1 ; delete t where ( a < 1 or true ) and b = 2 ; "
        "require t | join ( u ) ; forbid ( t ) ; return t ;",
    ),
    "fact": (
        "a and not b or one of ( a , b , c ) implies ( true or false ) and not ( a implies b )",
        "a implies not not b implies one of ( c )",
    ),
}


def outcome(kind, text):
    """None if the text can be read, otherwise the place and the class of its error."""
    try:
        READERS[kind](text)
    except errors.TextError as error:
        return (error.place, type(error).__name__)
    return None


def not_times(number, rest):
    return "not " * number + rest


def in_parentheses(number, text):
    return "(" * number + text + ")" * number


class Marked(unittest.TestCase):
    """Texts in which a `@` marks the place of the error."""

    def check(self, kind, marked, error="UnexpectedToken"):
        with self.subTest(kind=kind, text=marked):
            text = marked.replace("@", "")
            self.assertEqual(outcome(kind, text), (marked.index("@"), error))

    def check_all(self, kind, texts):
        for marked in texts:
            self.check(kind, marked)

    def test_the_examples(self):
        self.check_all("query", ("item | where code = 1 and@", "item | where @select = 1"))
        self.check("query", "item | where code = @1000001", "NumberTooLarge")
        for kind in READERS:
            self.check(kind, "@")
        self.check("fact", "not " * 20 + "@not a", "NestedTooDeeply")

    def test_texts_that_end_too_early(self):
        for kind, text in (("query", "t |"), ("schema", "table t"), ("script", "delete t"), ("fact", "a and")):
            for blanks in ("", " ", "\n", "  \n "):
                self.check(kind, text + blanks + "@")
        self.check_all("query", ("(t@", "(t | where a = 1@", "t | select a,@", "t | where a@", "t | where a = -@"))
        self.check_all("query", ("t | group@", "t | group by@", "t | group by a@",
                                 "t | group: n@", "t | group: n =@"))
        self.check_all("query", ("t | group: n = sum@", "t | join@", "t | where not@", "t | where (a = 1@"))
        self.check_all("schema", ("table t (a integer) key a limit 9@", "table t (a@", "table t (a integer) key a@"))
        self.check_all("schema", ("table t (a integer) key a limit 9; view@", "table t (a integer) key a limit@"))
        self.check_all("script", ("insert t (1)@", "insert t (1),@", "return t@", "update t set a = 1@", "insert t@"))
        self.check_all("fact", ("one@", "one of@", "one of (@", "one of (a@", "one of (a,@", "not@", "(a@"))

    def test_only_blanks(self):
        for kind in READERS:
            for text in ("", " ", "\n\n", "  \n"):
                self.assertEqual(outcome(kind, text), (len(text), "UnexpectedToken"))

    def test_tokens_behind_the_end(self):
        self.check_all("query", ("t @u", "t @;", "(t)@)", "t | select a @b",
                                 "t | where a = 1 @= 2", "t | select a @("))
        self.check_all("fact", ("a @b", "a @;", "(a)@)", "true @true", "one of (a) @(", "not a @one"))
        self.check_all("script", ("return t; @;", "return t; @t", "return t;@)"))
        self.check_all("schema", ("table t (a integer) key a limit 9; @;", "table t (a integer) key a limit 9; @t"))

    def test_wrong_tokens_in_queries(self):
        self.check_all("query", ("@| where a = 1", "@1", "@'t'", "t | @a", "t | @|", "t | @by",
                                 "t @where a = 1", "(@)"))
        self.check_all("query", ("t | select @1", "t | select a = @", "t | select a, @|", "t | select @(a)"))
        self.check_all("query", ("t | join @1", "t | union @|", "t | minus @where", "t | without u @(t)"))
        self.check_all("query", ("t | group @a: n = count", "t | group by @: n = count", "t | group: n @count"))
        self.check_all("query", ("t | group: n = count @a", "t | group: n = sum @count", "t | group: n = @a"))
        self.check_all("query", ("t | group: n = count, @sum", "t | group by a @b: n = count",
                                 "t | group: @count = a"))

    def test_wrong_tokens_in_formulas(self):
        self.check_all("query", ("t | where a @and b = 1", "t | where @= 1", "t | where (a @)"))
        self.check_all("query", ("t | where a = 1 @= 2", "t | where a = @true", "t | where (a + 1@)"))
        self.check_all("query", ("t | where true @= true", "t | where a = @not b",
                                 "t | where a = @(b)", "t | where @)"))
        self.check_all("query", ("t | where a = - @a", "t | where a = - @- 1",
                                 "t | where a = @+ 1", "t | where @+ 1 = 2"))
        self.check_all("query", ("t | where a = -@'x'", "t | where a - @> 1", "t | where a @1", "t | where a @'x'"))
        self.check_all("query", ("t | where a = 1 or @or", "t | where not @and", "t | where a @implies b = 1"))
        self.check_all("query", ("t | where @one of (a)", "t | where a < @= 1", "t | where @key = 1"))

    def test_wrong_tokens_in_schemas(self):
        self.check_all("schema", ("@view v = t;", "@deny d = t;", "@t", "table @1", "table t @a", "table t (@)"))
        self.check_all("schema", ("table t (a @)", "table t (a @real)", "table t (a integer@;",
                                  "table t (a integer,@)"))
        start = "table t (a integer) "
        self.check_all("schema", (start + "@limit 9", start + "key @(a)", start + "key a @;",
                                  start + "key a, @limit 9"))
        start = "table t (a integer) key a limit 9 "
        self.check_all("schema", (start + "check @;", start + "check a = 1 @check2 = 1;",
                                  start + "check @integer = 1;"))
        self.check_all("schema", (start + "reference @to t;", start + "reference a @t;", start + "reference a to @;"))
        self.check_all("schema", (start + "reference a to t@, b to t;", start + "reference a to t @b;"))
        self.check_all("schema", (start + "; view v @t;", start + "; view v = @;", start + "; view v = t@)"))
        self.check_all("schema", (start + "; deny @= t;", start + "; deny d = t @deny"))

    def test_a_declaration_that_comes_too_late(self):
        start = "table t (a integer) key a limit 9"
        self.check("schema", start + " reference a to t @check a = 1;")
        self.check("schema", start + " check a = 1 @limit 9;")
        self.check("schema", start + "; view v = t; @table u (a integer) key a limit 9;")
        self.check("schema", start + "; deny d = t; @table u (a integer) key a limit 9;")
        self.check("schema", start + "; deny d = t; @view v = t;")
        self.check("schema", start + "; view v = t; deny d = v; @view w = t;")

    def test_limits(self):
        for number in ("0", "61", "100", "1000000", "0000000", "0061"):
            self.check("schema", f"table t (a integer) key a limit @{number};")
        for number in ("@", "@-1;", "@;", "@a;", "@'9';", "@(9);"):
            self.check("schema", "table t (a integer) key a limit " + number)
        for number in ("1", "60", "0060", "0000001"):
            self.assertIsNone(outcome("schema", f"table t (a integer) key a limit {number};"))

    def test_wrong_tokens_in_scripts(self):
        self.check_all("script", ("@t", "insert @(1);", "insert t @1;", "insert t (@);", "insert t (1 @2);"))
        self.check_all("script", ("insert t (1)@(2);", "insert t (@a);", "insert t (-@'x');",
                                  "insert t (1 @+ 2);", "insert t (1), @;"))
        self.check_all("script", ("insert t from @;", "insert t from u@, v;", "insert @from u;", "insert t (@(1));"))
        self.check_all("script", ("update t @where a = 1;", "update t set @where true;",
                                  "update t set a @where true;"))
        self.check_all("script", ("update t set a = 1 @;", "update t set a = 1, @where true;",
                                  "update t set a = @(1)"))
        self.check_all("script", ("delete t @;", "delete t where @;", "delete @where true;", "delete t @from u;"))
        self.check_all("script", ("require @;", "return t@, u;", "forbid t @return u;",
                                  "return t; @insert2;", "@set"))

    def test_wrong_tokens_in_facts(self):
        self.check_all("fact", ("@and a", "a @= b", "@1", "@'a'", "one @(a)", "one of @a",
                                "one of (@)", "one of (a @b)"))
        self.check_all("fact", ("one of (a, @)", "one of (@true)", "one of (@(", "not @)", "a or @and b"))
        self.check_all("fact", ("@of (a)", "a implies @implies b", "(@)", "a and (b @,", "@select", "a @- b"))

    def test_a_reserved_word_in_the_place_of_a_name(self):
        self.check_all("query", ("@table", "t | join @key", "t | select @limit", "t | where @check = 1"))
        self.check_all("query", ("t | group by @to: n", "t | group by a: @least = count", "t | group: n = sum @sum"))
        self.check_all("schema", ("table @table (a integer)", "table t (@string string)"))
        self.check_all("schema", ("table t (a integer) key @one",
                                  "table t (a integer) key a limit 9 reference a to @to;"))
        self.check_all("script", ("insert @set (1);", "update t set @least = 1", "delete @insert where true;"))
        self.check_all("fact", ("@where", "not @count", "one of (a, @of)", "a and @integer"))

    def test_the_classes_of_the_errors(self):
        names = ("UnexpectedCharacter", "NameTooLong", "NumberTooLarge", "StringNotClosed", "StringTooLong",
                 "UnexpectedToken", "NestedTooDeeply")
        for text, name in (("and", "UnexpectedToken"), (not_times(21, "a"), "NestedTooDeeply")):
            with self.assertRaises(ValueError) as caught:
                reader.read_fact(text)
            self.assertIsInstance(caught.exception, errors.IndoubtError)
            self.assertIsInstance(caught.exception, errors.TextError)
            for other in names:
                self.assertEqual(isinstance(caught.exception, getattr(errors, other)), other == name)

    def test_errors_in_tokens_come_first(self):
        self.check("query", "where where @#", "UnexpectedCharacter")
        self.check("query", "t | @abcdefghijklmnopq", "NameTooLong")
        self.check("script", ") ) @'abc", "StringNotClosed")
        self.check("fact", not_times(30, "a and @1000001"), "NumberTooLarge")
        self.check("schema", "table table @'" + "x" * 21 + "'", "StringTooLong")


class Levels(unittest.TestCase):
    def check(self, kind, text, place):
        """The place is that of the error of the text, or None if the text has none."""
        with self.subTest(kind=kind, text=text):
            self.assertEqual(outcome(kind, text), None if place is None else (place, "NestedTooDeeply"))

    def test_parentheses_of_queries(self):
        self.check("query", in_parentheses(20, "t"), None)
        self.check("query", in_parentheses(21, "t"), 20)
        operands = "t | join (" * 20
        self.check("query", operands + "t" + ")" * 20, None)
        self.check("query", operands + "t | minus (t)" + ")" * 20, len(operands) + len("t | minus "))

    def test_formulas_begin_on_the_level_of_their_stage(self):
        for deep in (0, 1, 7, 20):
            begin = "(" * deep + "t | where "
            end = ")" * deep
            nots = not_times(20 - deep, "")
            self.check("query", begin + nots + "a = 1" + end, None)
            self.check("query", begin + nots + "not a = 1" + end, len(begin + nots))
            self.check("query", begin + in_parentheses(20 - deep, "a = 1") + end, None)
            self.check("query", begin + in_parentheses(21 - deep, "a = 1") + end, len(begin) + 20 - deep)
            implied = "true implies " * (20 - deep)
            self.check("query", begin + implied + "a = 1" + end, None)
            self.check("query", begin + implied + "a = 1 implies true" + end, len(begin + implied) + 6)

    def test_formulas_of_tables_and_statements_begin_on_level_0(self):
        for kind, begin, end in (
                ("schema", "table t (a integer) key a limit 9 check ", ";"),
                ("schema", "table t (a integer) key a limit 9 check a = 1 check ", " reference a to t;"),
                ("script", "delete t where ", ";"),
                ("script", "return t | where not not true; update t set a = 1 where ", ";")):
            self.check(kind, begin + not_times(20, "true") + end, None)
            self.check(kind, begin + not_times(21, "true") + end, len(begin) + 80)
            self.check(kind, begin + in_parentheses(20, "true") + end, None)
            self.check(kind, begin + in_parentheses(21, "true") + end, len(begin) + 20)
            implied = "true implies " * 20
            self.check(kind, begin + implied + "true" + end, None)
            self.check(kind, begin + implied + "true implies true" + end, len(begin + implied) + 5)

    def test_queries_of_views_denials_and_statements_begin_on_level_0(self):
        table = "table t (a integer) key a limit 9; "
        for kind, begin in (
                ("schema", table + "view v = "), ("schema", table + "view v = (t); deny d = "),
                ("script", "insert t from "), ("script", "require "), ("script", "forbid (t); return ")):
            self.check(kind, begin + in_parentheses(20, "t") + ";", None)
            self.check(kind, begin + in_parentheses(21, "t") + ";", len(begin) + 20)
            self.check(kind, begin + "t | where " + not_times(21, "true") + ";", len(begin) + 90)

    def test_facts(self):
        self.check("fact", not_times(20, "a"), None)
        self.check("fact", not_times(21, "a"), 80)
        self.check("fact", in_parentheses(20, "a"), None)
        self.check("fact", in_parentheses(21, "a"), 20)
        self.check("fact", "a implies " * 20 + "a", None)
        self.check("fact", "a implies " * 21 + "a", 202)
        self.check("fact", "(not " * 10 + "a" + ")" * 10, None)
        self.check("fact", "(not " * 10 + "(a)" + ")" * 10, 50)
        self.check("fact", "(not a implies " * 10 + "b" + ")" * 10, None)
        self.check("fact", "(not a implies " * 10 + "(b)" + ")" * 10, 150)
        self.check("fact", "(a implies " * 10 + "not b" + ")" * 10, 110)

    def test_what_follows_a_part_is_on_the_level_before_it(self):
        deep = not_times(20, "a")
        self.check("fact", f"{deep} and {deep} or {deep}", None)
        self.check("fact", deep + " implies b", None)
        self.check("fact", f"{in_parentheses(20, 'a')} implies {not_times(19, 'b')}", None)
        text = f"{in_parentheses(20, 'a')} implies "
        self.check("fact", text + not_times(20, "b"), len(text) + 76)
        text = in_parentheses(19, "a implies b") + " and "
        self.check("fact", text + deep, None)
        self.check("fact", text + not_times(21, "a"), len(text) + 80)
        self.check("query", in_parentheses(20, "t") + " | where " + not_times(20, "true"), None)

    def test_implies_on_level_20_between_parentheses(self):
        begin = "(" * 20 + "a "
        self.check("fact", begin + "and b" + ")" * 20, None)
        self.check("fact", begin + "implies b" + ")" * 20, len(begin))

    def test_parentheses_that_do_not_count(self):
        self.check("fact", not_times(20, "one of (a, b)"), None)
        self.check("query", "(" * 20 + "t | select a" + ")" * 20, None)
        self.check("schema", "table t (a integer) key a limit 9 check " + not_times(20, "true") + ";", None)
        self.check("script", "insert t (1), (2);" * 10, None)

    def test_a_token_that_cannot_stand_there_anyway(self):
        for kind, text, place in (
                ("fact", not_times(20, "a not"), 82), ("fact", not_times(20, "implies"), 80),
                ("query", "(" * 20 + "t (", 22), ("query", "t | where " + not_times(20, "a = ("), 94),
                ("fact", not_times(20, "one of ((a))"), 88), ("query", "(" * 20 + "not", 20)):
            self.assertEqual(outcome(kind, text), (place, "UnexpectedToken"))

    def test_long_texts_are_not_nested(self):
        self.check("fact", " and ".join(["a"] * 300), None)
        self.check("query", "t" + " | where a = 1" * 100, None)
        self.check("query", "t | where a = 1" + " - 1" * 300, None)


class EveryPrefix(unittest.TestCase):
    """Behind each beginning of the examples, each sort of token is tried."""

    def test_each_token_behind_each_beginning(self):
        for kind, examples in EXAMPLES.items():
            for example in examples:
                tokens = example.split(" ")
                self.assertIsNone(outcome(kind, example))
                states = ORACLES[kind].limited.states(kind, tokens)
                self.assertEqual(len(states), len(tokens) + 1)
                for number in range(len(tokens)):
                    self.try_all(kind, tokens[:number], ORACLES[kind].limited, states[number])

    def try_all(self, kind, tokens, grammar, state):
        wanted = grammar.wanted(state)
        for token in VOCABULARY:
            text, places = text_of(tokens + [token])
            found = outcome(kind, text)
            with self.subTest(kind=kind, text=text):
                if not any(fits(terminal, token) for terminal in wanted):
                    self.assertEqual(found, (places[-2], "UnexpectedToken"))
                elif found is not None:
                    self.assertEqual(found, (len(text), "UnexpectedToken"))

    def test_each_beginning_alone(self):
        for kind, examples in EXAMPLES.items():
            for example in examples:
                tokens = example.split(" ")
                states = ORACLES[kind].limited.states(kind, tokens)
                for number, state in enumerate(states):
                    text = " ".join(tokens[:number]) + " \n"
                    expected = (len(text), "UnexpectedToken")
                    if ORACLES[kind].limited.is_complete(state):
                        expected = None
                    with self.subTest(kind=kind, text=text):
                        self.assertEqual(outcome(kind, text), expected)


class RandomTexts(unittest.TestCase):
    def changed(self, tokens, rng):
        """The tokens with one of them changed, left out, or added, or cut off somewhere."""
        place = rng.randrange(len(tokens))
        choice = rng.randrange(4)
        if choice == 0:
            return tokens[:place] + [rng.choice(VOCABULARY)] + tokens[place + 1:]
        if choice == 1:
            return tokens[:place] + tokens[place + 1:]
        if choice == 2:
            return tokens[:place] + [rng.choice(VOCABULARY)] + tokens[place:]
        return tokens[:place]

    def test_random_texts(self):
        rng = random.Random(7)
        for _ in range(60):
            for kind, oracle in ORACLES.items():
                tokens = oracle.unlimited.random_tokens(kind, rng, rng.choice((0, 0.3, 0.5, 0.6)))
                if len(tokens) < 150:
                    self.check(kind, tokens, rng)
                    self.check(kind, self.changed(tokens, rng), rng)

    def check(self, kind, tokens, rng):
        text, places = text_of(tokens, rng)
        verdict = ORACLES[kind].verdict(tokens)
        with self.subTest(kind=kind, text=text):
            if verdict is not None:
                self.assertEqual(outcome(kind, text), (places[verdict[0]], verdict[1]))
                return
            tree = READERS[kind](text)
            printed = PRINTERS[kind](tree)
            self.assertEqual(READERS[kind](printed), tree)
            self.assertEqual(PRINTERS[kind](READERS[kind](printed)), printed)


if __name__ == "__main__":
    unittest.main()
