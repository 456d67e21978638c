import re
import unittest

from helpers import Maker, U, X, Y, Z, pure
from wishshown import reading
from wishshown.errors import (
    AlreadyThere, BadKey, BadName, BadRow, BadSize, BadText, BadWidth, ClashingEdits, KeyBroken, NotAscending, NotThere,
    UnboundVariable, UnknownTable, UnknownView,
)
from wishshown.reading import (
    lines_of, read_change, read_database, read_facts, read_number, read_schema, read_term, read_views, read_wish,
    words_of,
)

SCHEMA = [("pets", 2, 1), ("owns", 2, None)]
FACTS = [("pets", ("cat", "red")), ("owns", ("ada", "cat")), ("owns", ("bo", "cat"))]
VIEWS = [(2, [((X, Y), [("owns", (X, Y))], [])]), (1, [((X,), [("pets", (X, Y))], [])])]

# For each form: how a text of it is read, a right text, and all lengths in words at which its lines can end.
RIGHT = {
    "schema": (read_schema, ["table owns 2", "table pets 3 key 1", "table key 1 key 1"], [(3,), (3, 5), (3, 5)]),
    "facts": (lambda text: read_facts(SCHEMA, text), ["pets cat red", "pets cat tan", "owns ada cat"], [(2, 3)] * 3),
    "database": (lambda text: read_database(SCHEMA, text), ["pets cat red", "pets dog red", "owns a 0"], [(2, 3)] * 3),
    "views": (lambda text: read_views(SCHEMA, text),
              ["view 2", "rule ?0 ?1 <- owns ?0 ?1 , pets ?1 red ; ?0 != ?1 , bo = ?0", "rule x ?7 <- owns x ?7",
               "view 1", "rule ?0 <- pets ?0 ?1"],
              [(2,), (6, 7, 10, 11, 15, 19), (6, 7), (2,), (5, 6)]),
    "wish": (lambda text: read_wish(SCHEMA, VIEWS, text),
             ["may pets delete insert", "may owns insert", "add 0 ada dog", "remove 1 cat"],
             [(2, 3, 4), (2, 3), (3, 4), (3,)]),
    "change": (lambda text: read_change(SCHEMA, FACTS, text),
               ["delete pets cat red", "delete owns bo cat", "insert pets cat tan", "insert owns cy cat"],
               [(3, 4)] * 4),
}
CHECKS = (BadName, BadKey, BadSize, BadWidth, UnknownTable, BadRow, NotAscending, UnboundVariable, NotThere, AlreadyThere)


def joined(lines):
    return "".join(line + "\n" for line in lines)


def place_of_error(read, text):
    """The line and the column of BadText; None if the form is right, whatever the checks of the data say."""
    try:
        read(text)
    except BadText as error:
        return (error.line, error.column)
    except CHECKS + (KeyBroken, UnknownView, ClashingEdits):
        return None
    return None


class Lines(unittest.TestCase):
    def test_lines(self):
        for text, lines in [("", []), ("\n", [""]), ("a", ["a"]), ("a\n", ["a"]), ("a\nb", ["a", "b"]), (" ", [" "]),
                            ("a\n\n", ["a", ""]), ("\na", ["", "a"]), ("a b\n\n c \n", ["a b", "", " c "]),
                            ("a\n ", ["a", " "])]:
            self.assertEqual(list(lines_of(text)), lines, repr(text))

    def test_they_are_yielded(self):
        made = lines_of("a\nb\n")
        self.assertIs(iter(made), made)
        self.assertEqual((next(made), next(made), next(made, None)), ("a", "b", None))

    def test_words(self):
        for line, words in [("", [(1, "")]), ("a", [(1, "a")]), ("ab c", [(1, "ab"), (4, "c")]),
                            (" a", [(1, ""), (2, "a")]), ("a ", [(1, "a"), (3, "")]),
                            ("a  b", [(1, "a"), (3, ""), (4, "b")]), (" ", [(1, ""), (2, "")]),
                            ("a   b", [(1, "a"), (3, ""), (4, ""), (5, "b")]),
                            ("?0 <- x , ;", [(1, "?0"), (4, "<-"), (7, "x"), (9, ","), (11, ";")])]:
            self.assertEqual(pure(self, words_of, line), words, repr(line))


class Words(unittest.TestCase):
    def test_numbers(self):
        for number in [0, 1, 9, 10, 42, 100, 12345, 100000, 999999]:
            self.assertEqual(read_number(str(number)), number)
        for word in ["", "00", "01", "012345", "1000000", "1234567", "0000000", "-1", "+1", "1.0", "1a", "a", " 1", "1 ",
                     "1_0", "\u0661", "\xb2", "?1", "1\n"]:
            self.assertIsNone(read_number(word), repr(word))

    def test_terms(self):
        for number in range(8):
            self.assertEqual(read_term(f"?{number}"), ("var", number))
        for word in ["a", "0", "00", "a0", "b7", "var", "abcdefghijkl", "007"]:
            self.assertEqual(read_term(word), ("word", word))
        for word in ["", "?", "?8", "?9", "?00", "?10", "?a", "??", "A", "a-b", "a" * 13, "<-", ",", ";", "=", "!=", "? 0",
                     "?0 ", "0?", "?\u0661"]:
            self.assertIsNone(read_term(word), repr(word))


class RightTexts(unittest.TestCase):
    def test_schemas(self):
        self.assertEqual(pure(self, read_schema, "table owns 2\ntable pets 3 key 1\n"),
                         [("owns", 2, None), ("pets", 3, 1)])
        self.assertEqual(read_schema("table table 1 key 1\n"), [("table", 1, 1)])
        self.assertEqual(read_schema("table 0 4\n"), [("0", 4, None)])

    def test_facts(self):
        text = "pets cat red\nowns ada cat\nowns bo cat\n"
        self.assertEqual(pure(self, read_facts, SCHEMA, text), FACTS)
        self.assertEqual(pure(self, read_database, SCHEMA, text), FACTS)
        self.assertEqual(read_facts(SCHEMA, ""), [])
        self.assertEqual(read_database(SCHEMA, ""), [])
        self.assertEqual(read_facts(SCHEMA, "pets cat red\npets cat tan\n"),
                         [("pets", ("cat", "red")), ("pets", ("cat", "tan"))])

    def test_views(self):
        text = "view 1\nrule ?0 <- owns ?0 ?1 , owns ?1 bo ; ?0 != ?1\n"
        self.assertEqual(pure(self, read_views, [("owns", 2, None)], text),
                         [(1, [((X,), [("owns", (X, Y)), ("owns", (Y, ("word", "bo")))], [(X, "!=", Y)])])])
        self.assertEqual(read_views(SCHEMA, joined(RIGHT["views"][1])), [
            (2, [((X, Y), [("owns", (X, Y)), ("pets", (Y, ("word", "red")))],
                  [(X, "!=", Y), (("word", "bo"), "=", X)]),
                 ((("word", "x"), ("var", 7)), [("owns", (("word", "x"), ("var", 7)))], [])]),
            (1, [((X,), [("pets", (X, Y))], [])])])

    def test_views_of_three_atoms_and_three_conditions(self):
        text = "view 1\nrule ?3 <- owns ?0 ?1 , owns ?1 ?2 , owns ?2 ?3 ; ?0 = ?1 , ?1 != ?2 , a != ?3\n"
        atoms = [("owns", (X, Y)), ("owns", (Y, Z)), ("owns", (Z, U))]
        conditions = [(X, "=", Y), (Y, "!=", Z), (("word", "a"), "!=", U)]
        self.assertEqual(read_views(SCHEMA, text), [(1, [((U,), atoms, conditions)])])

    def test_wishes(self):
        self.assertEqual(pure(self, read_wish, SCHEMA, VIEWS, joined(RIGHT["wish"][1])),
                         ([(0, "add", ("ada", "dog")), (1, "remove", ("cat",))], [(True, True), (False, True)]))
        self.assertEqual(read_wish(SCHEMA, VIEWS, "may pets\nmay owns delete\n"), ([], [(False, False), (True, False)]))
        names = [("delete", 1, None), ("insert", 1, None), ("may", 1, None), ("add", 1, None)]
        self.assertEqual(read_wish(names, VIEWS, "may delete\nmay insert insert\nmay may delete\nmay add delete insert\n"),
                         ([], [(False, False), (False, True), (True, False), (True, True)]))

    def test_changes(self):
        self.assertEqual(pure(self, read_change, SCHEMA, FACTS, joined(RIGHT["change"][1])),
                         ([FACTS[0], FACTS[2]], [("pets", ("cat", "tan")), ("owns", ("cy", "cat"))]))
        self.assertEqual(read_change(SCHEMA, FACTS, ""), ([], []))
        self.assertEqual(read_change(SCHEMA, FACTS, "insert owns a b\n"), ([], [("owns", ("a", "b"))]))
        self.assertEqual(read_change(SCHEMA, FACTS, "delete owns bo cat\n"), ([FACTS[2]], []))


def written(*lines):
    return "".join(" ".join(words) + "\n" for words in lines)


def written_term(term):
    kind, worth = term
    return f"?{worth}" if kind == "var" else worth


def written_rule(rule):
    head, atoms, conditions = rule
    words = ["rule"] + [written_term(term) for term in head]
    for place, (name, terms) in enumerate(atoms):
        words += ["," if place else "<-", name] + [written_term(term) for term in terms]
    for place, (left, sign, right) in enumerate(conditions):
        words += ["," if place else ";", written_term(left), sign, written_term(right)]
    return words


class MadeData(unittest.TestCase):
    """Point 26: reading the written form gives equal data."""

    def test_data_come_back(self):
        for seed in range(150):
            maker = Maker(seed)
            schema, words = maker.schema(), ["a", "b0", "2", "delete", "may"]
            text = written(*[["table", name, str(width)] + ([] if key is None else ["key", str(key)])
                             for name, width, key in schema])
            self.assertEqual(read_schema(text), schema)
            facts, held = maker.facts(schema, words, 30), maker.holding(schema, words, 24)
            self.assertEqual(read_facts(schema, written(*[[name, *row] for name, row in facts])), facts)
            self.assertEqual(read_database(schema, written(*[[name, *row] for name, row in held])), held)
            views = [maker.view(schema, words) for _ in range(maker.random.randint(1, 4))]
            text = written(*[line for width, rules in views
                             for line in [["view", str(width)]] + [written_rule(rule) for rule in rules]])
            self.assertEqual(read_views(schema, text), views)
            deleted, inserted = maker.change(schema, held, words, 12)
            text = written(*[["delete", name, *row] for name, row in deleted],
                           *[["insert", name, *row] for name, row in inserted])
            self.assertEqual(read_change(schema, held, text), (deleted, inserted))
            may = [(maker.random.random() < 0.5, maker.random.random() < 0.5) for _ in schema]
            edits = [(place, "add", tuple(maker.random.choices(words, k=view[0]))) for place, view in enumerate(views)]
            text = written(*[["may", table[0]] + ["delete"] * lets[0] + ["insert"] * lets[1]
                             for table, lets in zip(schema, may)],
                           *[[deed, str(place), *row] for place, deed, row in edits])
            self.assertEqual(read_wish(schema, views, text), (edits, may))


class WrongTexts(unittest.TestCase):
    """The line and the column of point 24."""

    def bad(self, read, text, line, column):
        with self.assertRaises(BadText) as caught:
            read(text)
        self.assertEqual((caught.exception.line, caught.exception.column), (line, column), repr(text))

    def test_a_wrong_word_at_each_place(self):
        for read, lines, _ in RIGHT.values():
            self.assertIsNotNone(read(joined(lines)))
            for at, line in enumerate(lines):
                words = line.split(" ")
                for place in range(len(words)):
                    column = len(" ".join(words[:place] + [""])) + 1 if place else 1
                    for wrong in ["A", "", "?8", "a" * 13, "<", "-", "no%"]:
                        changed = " ".join(words[:place] + [wrong] + words[place + 1:])
                        self.bad(read, joined(lines[:at] + [changed] + lines[at + 1:]), at + 1, column)
                        self.bad(read, joined(lines[:at] + [changed]), at + 1, column)
                        self.bad(read, joined(lines[:at]) + changed, at + 1, column)

    def test_a_line_that_ends_too_early(self):
        for read, lines, ends in RIGHT.values():
            for at, line in enumerate(lines):
                words = line.split(" ")
                for count in range(1, len(words) + 1):
                    cut = " ".join(words[:count])
                    text = joined(lines[:at] + [cut] + lines[at + 1:])
                    if count in ends[at]:
                        self.assertIsNone(place_of_error(read, text), repr(text))
                    else:
                        self.bad(read, text, at + 1, len(cut) + 1)

    def test_a_line_that_goes_on_too_long(self):
        for read, text, line, column in [
            (RIGHT["schema"][0], "table owns 2 key 1 key\n", 1, 20), (RIGHT["schema"][0], "table a 1\ntable b 1 1\n", 2, 11),
            (RIGHT["views"][0], "view 1 1\n", 1, 8), (RIGHT["views"][0], "view 1\nrule ?0 <- owns ?0 ?1 ; a = b c\n", 2, 31),
            (RIGHT["views"][0], "view 1\nrule ?0 <- owns ?0 ?1 ; a = b ; c = d\n", 2, 31),
            (RIGHT["wish"][0], "may pets delete delete\n", 1, 17), (RIGHT["wish"][0], "may pets insert delete\n", 1, 17),
            (RIGHT["wish"][0], "may pets delete insert insert\n", 1, 24), (RIGHT["wish"][0], "may pets insert insert\n", 1, 17),
        ]:
            self.bad(read, text, line, column)

    def test_empty_words_and_lines(self):
        for read, lines, _ in RIGHT.values():
            for at, line in enumerate(lines):
                before, behind = lines[:at], lines[at + 1:]
                self.bad(read, joined(before + [""] + lines[at:]), at + 1, 1)
                self.bad(read, joined(before + [" " + line] + behind), at + 1, 1)
                self.bad(read, joined(before + [line + " "] + behind), at + 1, len(line) + 2)
                self.bad(read, joined(before + [line.replace(" ", "  ", 1)] + behind), at + 1, line.index(" ") + 2)
            self.bad(read, joined(lines + [""]), len(lines) + 1, 1)
            self.bad(read, joined(lines) + " ", len(lines) + 1, 1)
            self.bad(read, "\n", 1, 1)

    def test_a_text_without_its_last_newline(self):
        for read, lines, ends in RIGHT.values():
            for count in range(1, len(lines) + 1):
                words = lines[count - 1].split(" ")
                for many in range(1, len(words) + 1):
                    cut = " ".join(words[:many])
                    self.bad(read, joined(lines[:count - 1]) + cut, count, len(cut) + 1)

    def test_missing_may_lines(self):
        read = RIGHT["wish"][0]
        self.bad(read, "", 1, 1)
        self.bad(read, "may pets\n", 2, 1)
        self.bad(read, "may pets", 1, 9)
        self.bad(read, "may pets delete\n\n", 2, 1)

    def test_lines_that_cannot_stand_there(self):
        wish, views, change = RIGHT["wish"][0], RIGHT["views"][0], RIGHT["change"][0]
        self.bad(wish, "add 0 a b\nmay pets\nmay owns\n", 1, 1)
        self.bad(wish, "may pets\nremove 0 a b\nmay owns\n", 2, 1)
        self.bad(wish, "may pets\nmay owns\nmay owns\n", 3, 1)
        self.bad(wish, "may pets\nmay owns\nadd 1 a\nmay owns\n", 4, 1)
        self.bad(wish, "may owns\nmay pets\n", 1, 5)
        self.bad(wish, "may pets\nmay pets\n", 2, 5)
        self.bad(wish, "may other\n", 1, 5)
        self.bad(views, "rule ?0 <- owns ?0 ?1\nview 1\n", 1, 1)
        self.bad(change, "insert owns a b\ndelete owns bo cat\n", 2, 1)
        self.bad(change, "delete owns bo cat\ninsert owns a b\ninsert owns c d\ndelete owns a b\n", 4, 1)

    def test_the_lines_of_other_forms(self):
        for name, (_, lines, _) in RIGHT.items():
            for other, (read, _, _) in RIGHT.items():
                if other != name and other not in ("facts", "database") and (name, other) != ("change", "schema"):
                    self.bad(read, joined(lines), 1, 1)

    def test_numbers(self):
        for width in ["0", "5", "12", "123", "1234", "12345", "123456", "999999"]:
            with self.assertRaises(BadWidth):
                read_schema(f"table a {width}\n")
            with self.assertRaises(BadWidth):
                read_views(SCHEMA, f"view {width}\n")
            with self.assertRaises(BadKey):
                read_schema(f"table a 4 key {width}\n")
            with self.assertRaises(UnknownView):
                read_wish(SCHEMA, [], f"may pets\nmay owns\nadd {width} a\n")
        for width in ["1234567", "01", "00", "000000", "1a", "-1", "a", "1,"]:
            self.bad(read_schema, f"table a {width}\n", 1, 9)
            self.bad(read_schema, f"table a 4 key {width}\n", 1, 15)
            self.bad(RIGHT["views"][0], f"view {width}\n", 1, 6)
            self.bad(RIGHT["wish"][0], f"may pets\nmay owns\nadd {width} a\n", 3, 5)

    def test_variables(self):
        for number in range(8):
            read_views(SCHEMA, f"view 1\nrule ?{number} <- pets ?{number} a ; ?{number} = ?{number}\n")
        for wrong in ["?8", "?9", "?10", "?00", "?", "?a"]:
            self.bad(RIGHT["views"][0], f"view 1\nrule {wrong} <- pets ?0 a\n", 2, 6)
            self.bad(RIGHT["views"][0], f"view 1\nrule ?0 <- pets ?0 {wrong}\n", 2, 20)
            self.bad(RIGHT["views"][0], f"view 1\nrule ?0 <- pets ?0 a ; ?0 = {wrong}\n", 2, 29)
            self.bad(RIGHT["facts"][0], f"pets cat {wrong}\n", 1, 10)

    def test_variables_stand_in_views_only(self):
        self.bad(RIGHT["facts"][0], "pets ?0 red\n", 1, 6)
        self.bad(RIGHT["wish"][0], "may pets\nmay owns\nadd 0 a ?0\n", 3, 9)
        self.bad(RIGHT["change"][0], "delete pets ?0 a\n", 1, 13)
        self.bad(RIGHT["views"][0], "view 1\nrule ?0 <- ?0 a\n", 2, 12)

    def test_the_first_line_counts(self):
        self.bad(read_schema, "table a\ntables\n", 1, 8)
        self.bad(read_schema, "table a 1\ntable b 1 kez 1\ntable C\n", 2, 11)
        self.bad(read_schema, "table a 1\ntable b\ntable", 2, 8)
        self.bad(read_schema, "table A 01 lock\n", 1, 7)

    def test_the_example(self):
        with self.assertRaises(BadText):
            read_schema("table owns 02\n")


class Completions(unittest.TestCase):
    """Compares each word with the lines that begin with it, over all lines of a few words."""

    TERM = r"(\?[0-7]|[a-z0-9]{1,12})"
    NUMBER = r"(0|[1-9]\d{0,5})"
    ATOM = rf"[a-z0-9]{{1,12}}( {TERM})+"
    CONDITION = rf"{TERM} !?= {TERM}"
    # The form of a line, what can complete it, the words that are tried, the lines ahead of it, the most words.
    KINDS = {
        "schema": (rf"table [a-z0-9]{{1,12}} {NUMBER}( key {NUMBER})?", [" x 1", " 1", " key 1"],
                   ["table", "key", "2", "02", "?0", ""], "", 7),
        "facts": (r"[a-z0-9]{1,12}( [a-z0-9]{1,12})+", [" x"], ["pets", "2", "?0", ",", "", "aaaaaaaaaaaaa"], "", 5),
        "views": (rf"view {NUMBER}|rule( {TERM})+ <- {ATOM}( , {ATOM})*( ; {CONDITION}( , {CONDITION})*)?",
                  [" 1", " x <- x x", " <- x x", " x x", " x", " x = x", " = x"],
                  ["?0", "x", "<-", ",", ";", "=", "rule", ""], "view 1\n", 9),
        "wish": (rf"(add|remove) {NUMBER}( [a-z0-9]{{1,12}})+", [" 1 x", " x"],
                 ["add", "remove", "may", "1", "01", ""], "may pets\nmay owns\n", 5),
        "change": (r"(delete|insert) [a-z0-9]{1,12}( [a-z0-9]{1,12})+", [" x x", " x"],
                   ["delete", "insert", "add", "?0", "1"], "", 5),
    }

    def test_all_lines(self):
        for name, (form, more, alphabet, ahead, longest) in self.KINDS.items():
            read, line = RIGHT[name][0], ahead.count("\n") + 1
            begun, tried = [""], 0
            while begun:
                start = begun.pop()
                for word in alphabet:
                    tried += 1
                    text = start + word
                    if not any(re.fullmatch(form, text + rest) for rest in [""] + more):
                        for rest in ["", " ", " x", " A"]:
                            self.assertEqual(place_of_error(read, f"{ahead}{text}{rest}\n"), (line, len(start) + 1), text)
                    else:
                        told = None if re.fullmatch(form, text) else (line, len(text) + 1)
                        self.assertEqual(place_of_error(read, f"{ahead}{text}\n"), told, text)
                        self.assertEqual(place_of_error(read, f"{ahead}{text}"), (line, len(text) + 1), text)
                        if text.count(" ") + 1 < longest:
                            begun.append(text + " ")
            self.assertGreater(tried, 40, name)


class Checks(unittest.TestCase):
    """Point 25: the form first, then the checks of the data."""

    MAY = "may pets\nmay owns\n"

    def cases(self):
        schema, facts, database = RIGHT["schema"][0], RIGHT["facts"][0], RIGHT["database"][0]
        views, wish, change = RIGHT["views"][0], RIGHT["wish"][0], RIGHT["change"][0]
        many = "".join(f"owns a{place:02} b\n" for place in range(25))
        return [
            (schema, BadSize, ""), (schema, BadSize, joined([f"table a{place} 1" for place in range(5)])),
            (schema, BadWidth, "table a 5\n"), (schema, BadKey, "table a 2 key 3\n"), (schema, BadKey, "table a 2 key 0\n"),
            (schema, BadName, "table a 2\ntable a 1\n"),
            (facts, UnknownTable, "dogs a b\n"), (facts, BadRow, "pets a\n"), (facts, BadRow, "pets a b c\n"),
            (facts, NotAscending, "owns a b\npets a b\n"), (facts, NotAscending, "pets a b\npets a b\n"),
            (database, BadSize, many), (database, UnknownTable, "dogs a b\n"), (database, BadRow, "pets a\n"),
            (database, NotAscending, "owns b b\nowns a b\n"), (database, KeyBroken, "pets a b\npets a c\n"),
            (views, BadSize, ""), (views, BadSize, "view 1\n"), (views, BadWidth, "view 5\n"),
            (views, BadSize, "view 1\nrule ?0 <- pets ?0 a\n" * 5), (views, UnknownTable, "view 1\nrule ?0 <- dogs ?0 a\n"),
            (views, BadRow, "view 1\nrule ?0 <- pets ?0\n"), (views, BadRow, "view 2\nrule ?0 <- pets ?0 a\n"),
            (views, UnboundVariable, "view 1\nrule ?1 <- pets ?0 a\n"),
            (views, BadSize, "view 1\nrule ?0" + " <- pets ?0 a" + " , pets ?0 a" * 3 + "\n"),
            (wish, UnknownView, self.MAY + "add 2 a\n"), (wish, BadRow, self.MAY + "add 1 a b\n"),
            (wish, ClashingEdits, self.MAY + "add 1 a\nremove 1 a\n"), (wish, BadSize, self.MAY + "add 1 a\n" * 7),
            (change, UnknownTable, "delete dogs a\n"), (change, BadRow, "insert pets a\n"),
            (change, NotAscending, "delete owns bo cat\ndelete owns ada cat\n"), (change, NotThere, "delete owns a b\n"),
            (change, AlreadyThere, "insert owns ada cat\n"),
        ]

    def test_each_check(self):
        for read, error, text in self.cases():
            with self.assertRaises(error, msg=repr(text)):
                read(text)

    def test_the_form_comes_first(self):
        for read, _, text in self.cases():
            for wrong in ["\n", "?8 a\n", " "]:
                with self.assertRaises(BadText) as caught:
                    read(text + wrong)
                self.assertEqual(caught.exception.line, text.count("\n") + 1)
                self.assertEqual(caught.exception.column, 1)

    def test_facts_need_not_hold_their_keys(self):
        self.assertEqual(len(read_facts(SCHEMA, "pets a b\npets a c\n")), 2)
        self.assertEqual(len(read_facts(SCHEMA, joined([f"owns a{place:02} b" for place in range(25)]))), 25)

    def test_the_fields_of_the_checks(self):
        with self.assertRaises(NotThere) as caught:
            read_change(SCHEMA, FACTS, "delete owns a b\n")
        self.assertEqual(caught.exception.fact, ("owns", ("a", "b")))
        with self.assertRaises(KeyBroken) as caught:
            read_database(SCHEMA, "pets a b\npets a c\n")
        self.assertEqual(caught.exception.second, ("pets", ("a", "c")))


class Interface(unittest.TestCase):
    def test_the_functions_are_defined_in_this_file(self):
        for function in [lines_of, words_of, read_number, read_term, read_schema, read_facts, read_database, read_views,
                         read_wish, read_change]:
            self.assertEqual(function.__module__, reading.__name__)

    def test_the_names_of_the_arguments(self):
        self.assertEqual(list(lines_of(text="a\n")), ["a"])
        self.assertEqual(words_of(line="a"), [(1, "a")])
        self.assertEqual(read_number(word="1"), 1)
        self.assertEqual(read_term(word="?1"), Y)
        self.assertEqual(read_schema(text="table a 1\n"), [("a", 1, None)])
        self.assertEqual(read_facts(schema=SCHEMA, text=""), [])
        self.assertEqual(read_database(schema=SCHEMA, text=""), [])
        self.assertEqual(len(read_views(schema=SCHEMA, text=joined(RIGHT["views"][1]))), 2)
        self.assertEqual(len(read_wish(schema=SCHEMA, views=VIEWS, text="may pets\nmay owns\n")), 2)
        self.assertEqual(read_change(schema=SCHEMA, database=FACTS, text=""), ([], []))
