"""Promise [91]: the texts of books, plans and Earliests, and how they are read."""

import re
import string

from anyofthese.books import Book
from anyofthese.earliest import Earliest
from anyofthese.errors import InvalidText
from anyofthese.plans import Plan, RoundRule
from anyofthese.rules import Rule
from anyofthese.terms import Term
from anyofthese.texts import book_text, plan_text, read_book, read_earliest, read_plan
from tests.samples import BIG, EIGHT, LOW, ODD_VALUES, SHOP, Case
from tests.trials import chance, great_book, some_book, some_plan

BOOK = "moments ann bob bus shop\nrule shop ann bob\nrule ann bus+5\nrule bob bus+9\n"
ROUNDS = Plan(["a", "b"], [RoundRule("a", [("b", 3, 1)]), RoundRule("b", [("b", 2, 1), ("a", 4, 0), ("b", -7, 0)])])
PLAN = "moments a b\nrule a b+3@1\nrule b a+4 b-7 b+2@1\n"
NO_STRINGS = [value for value in ODD_VALUES] + [5, BOOK.encode(), [BOOK], (BOOK,), {BOOK: 1}, SHOP, ROUNDS]

# Texts of a term that cannot stand in a rule of a book with the moments a and b, nor in that of a plan.
NO_TERMS = [
    "", "a+0", "a-0", "a+03", "a-03", "a+00", "a+", "a-", "a+-3", "a-+3", "a++3", "a--3", "a+3+3", "a3", "3", "+3",
    "-3", "a +3", "a+ 3", "a+3 ", " a+3", "A", "A+3", "aB", "c", "c+3", "abcdefghi", "abcdefghi+3", "a+3a", "a+a",
    "a+3.0", "a_", "a+3_000", "a+3,", "a=3", "a*3", "(a)", "a+(3)", "a+1e3", "a+0x3", "'a'", "a\t", "a+3\t", ",", ";",
    ":", "@", "a@", "a@0", "a@5", "a@01", "a@-1", "a@+1", "a@10", "a@1@1", "a@1+3", "a+3@", "a+3@0", "a+3@5", "a+3@01",
    "a+3@ 1", "a @1", "a+3@1a", "a+3@a", "@1", "a+@1", "a+0@1", "+3@1",
]


def can_stand(line, moments, rounds):
    """Whether the line is that of a rule, or round rule, of the moments."""
    term = "[a-z]{1,8}([+-][1-9][0-9]*)?" + ("(@[1-4])?" if rounds else "")
    if not re.fullmatch(f"rule [a-z]{{1,8}}( {term}){{1,8}}", line):
        return False
    _, left, *terms = line.split(" ")
    places = [(re.match("[a-z]*", text)[0], text.partition("@")[2]) for text in terms]
    return places == sorted(set(places)) and {left, *[moment for moment, _ in places]} <= set(moments)


def wrong_line(text, rounds):
    """The wrong line of the text of a plan, or of a book, by the words of [91]; None if there is none."""
    *lines, rest = text.split("\n")
    for number, line in enumerate(lines, 1):
        if number == 1:
            _, *moments = line.split(" ")
            good = re.fullmatch("moments( [a-z]{1,8}){1,8}", line) and moments == sorted(set(moments))
        else:
            good = can_stand(line, moments, rounds) and number <= (31 if rounds else 101)
        if not good:
            return number
    return len(lines) + 1 if rest or not lines else None


class WriteTest(Case):
    def test_books(self):
        self.same(book_text(SHOP), BOOK)
        self.same(book_text(book=Book(["a"])), "moments a\n")
        book = Book(["b", "a", "c"], [Rule("c", Earliest.of(c=LOW, a=0, b=BIG)), Rule("a", Term("a") - 1)])
        self.same(book_text(book), f"moments a b c\nrule c a b+{BIG} c{LOW}\nrule a a-1\n")

    def test_plans(self):
        self.same(plan_text(ROUNDS), PLAN)
        self.same(plan_text(plan=Plan(["a"])), "moments a\n")
        terms = [("b", 0, 3), ("b", 0, 0), ("a", LOW, 4), ("a", BIG, 2), ("b", 1, 1), ("a", -1, 0)]
        plan = Plan(["b", "a"], [RoundRule("a", terms)])
        self.same(plan_text(plan), f"moments a b\nrule a a-1 a+{BIG}@2 a{LOW}@4 b b+1@1 b@3\n")

    def test_line_by_line(self):
        luck = chance(1)
        for size in (3, BIG):
            for _ in range(40):
                book = some_book(luck, "abcd", luck.randint(0, 6), 4, size)
                plan = some_plan(luck, "abcd", luck.randint(0, 6), 6, size)
                for text, owner in ((book_text(book), book), (plan_text(plan), plan)):
                    lines = text.split("\n")
                    self.same(lines.pop(), "")
                    self.same(lines[0], "moments a b c d")
                    self.same(lines[1:], [str(rule) for rule in owner.rules()])


class ReadTest(Case):
    def test_equal_ones(self):
        luck = chance(2)
        for size in (2, 11, BIG):
            for _ in range(60):
                names = luck.sample(["a", "b", "zoe", "abcdefgh", "zzzzzzzz", "rule", "moments"], luck.randint(1, 7))
                book = some_book(luck, names, luck.randint(0, 8), 8, size)
                self.same(read_book(book_text(book)), book)
                plan = some_plan(luck, names, luck.randint(0, 8), 8, size)
                self.same(read_plan(plan_text(plan)), plan)
        self.same(read_book(text=BOOK), SHOP)
        self.same(read_plan(text=PLAN), ROUNDS)
        self.same(read_book("moments a\n"), Book(["a"]))
        self.same(read_plan("moments a\n"), Plan(["a"]))

    def test_full_ones(self):
        luck = chance(3)
        book = great_book(luck)
        self.same(read_book(book_text(book)), book)
        plan = some_plan(luck, EIGHT, 30, 8, BIG)
        self.same(read_plan(plan_text(plan)), plan)

    def wrong(self, line, text, reads=(read_book, read_plan)):
        for read in reads:
            self.fails(InvalidText, {"line": line}, read, text)

    def test_no_strings(self):
        for wrong in NO_STRINGS:
            self.wrong(None, wrong)
            self.fails(InvalidText, {"line": None}, read_earliest, wrong)
        self.same(read_book(BOOK), SHOP)

    def test_line_feeds(self):
        for text in (BOOK, PLAN):
            read = read_book if text == BOOK else read_plan
            many = text.count("\n")
            self.wrong(1, "", [read])
            self.wrong(1, "\n", [read])
            self.wrong(1, "\n" + text, [read])
            self.wrong(many, text[:-1], [read])
            self.wrong(many + 1, text + "\n", [read])
            self.wrong(many + 1, text + "\n\n", [read])
            self.wrong(many + 1, text + " ", [read])
            self.wrong(many + 1, text + "\n" + text, [read])
            self.wrong(many + 1, text + "moments a b\n", [read])
            self.wrong(many + 1, text + "x", [read])
            lines = text.split("\n")
            for place in range(many):
                self.wrong(place + 1, "\n".join(lines[:place] + [""] + lines[place:]), [read])
                self.wrong(place + 1, "\n".join(lines[:place + 1]), [read])
                joined = lines[:place] + [lines[place] + lines[place + 1]] + lines[place + 2:]
                self.wrong(place + 1, "\n".join(joined), [read])
        self.wrong(1, "moments a")
        self.wrong(1, "rule")
        self.wrong(2, "moments a\nrule a a")
        self.wrong(2, "moments a\nrule")

    def test_each_sign_more_less_or_otherwise(self):
        found = {}
        for text, read, write in ((BOOK, read_book, book_text), (PLAN, read_plan, plan_text)):
            for place in range(len(text) + 1):
                others = [text[:place] + text[place + 1:]]
                for sign in "\n az0139+-@A=,":
                    others += [text[:place] + sign + text[place:], text[:place] + sign + text[place + 1:]]
                for other in others:
                    line = wrong_line(other, read == read_plan)
                    found[line] = found.get(line, 0) + 1
                    if line is None:
                        self.same(write(read(other)), other)
                    else:
                        self.wrong(line, other, [read])
        self.assertEqual(set(found), {None, 1, 2, 3, 4, 5})
        self.assertGreater(min(found.values()), 20)

    def test_each_word_more_less_or_otherwise(self):
        luck = chance(5)
        found = {True: 0, False: 0}
        words = ["a", "b", "c", "rule", "moments", "a+1", "b-1", "a@1", "b+1@1", "c@2", "", "a+0", "\n", "\nrule"]
        for _ in range(4000):
            rounds = luck.random() < 0.5
            text = plan_text(some_plan(luck, "abc", 3, 2, 2)) if rounds else book_text(some_book(luck, "abc", 3, 2, 2))
            row = text.replace("\n", " \n").split(" ")
            place = luck.randrange(len(row))
            row[place:place + luck.randint(0, 1)] = luck.sample(words, luck.randint(0, 1))
            other = " ".join(row).replace(" \n", "\n")
            line = wrong_line(other, rounds)
            read, write = (read_plan, plan_text) if rounds else (read_book, book_text)
            if line is None:
                self.same(write(read(other)), other)
            else:
                self.wrong(line, other, [read])
            found[line is None] += 1
        self.assertGreater(min(found.values()), 200, found)

    def test_wrong_moments(self):
        for line in ("moments", "moments ", "moments  a", " moments a", "moments a ", "moments a  b", "moments b a",
                     "moments a a", "moments a b a", "moments A", "moments a B", "moments abcdefghi", "moments a1",
                     "moments a,b", "Moments a", "moment a", "a", "rule a a", "", " ", "momentsa", "moments\ta",
                     "moments a b c d e f g h i", "moments a b c d e f g h h", "moments a+1", "moments a;"):
            self.wrong(1, line + "\n")
            self.wrong(1, line + "\nrule a a\n")
            self.wrong(1, line + "\n\n")
        self.same(read_book("moments a b c d e f g h\n").moments, tuple(EIGHT))
        self.same(read_plan("moments a b c d e f g h\n").moments, tuple(EIGHT))
        self.same(read_book("moments moments rule\n").moments, ("moments", "rule"))

    def test_wrong_rules(self):
        for line in ("rule", "rule ", "rule a", "rule a ", "rule  a a", "rule a  a", " rule a a", "rule a a ",
                     "rule a a  b", "Rule a a", "RULE a a", "rules a a", "rul a a", "a a", "rulea a", "rule c a",
                     "rule A a", "rule a+1 a", "rule abcdefghi a", "rule a b a", "rule a a a", "rule a a a+1",
                     "rule a b b", "rule a a b a", "", " ", "moments a b", "rule a,b", "rule a a,b", "rule a; a",
                     "rule a a;", "rule\ta a", "rule a\ta"):
            self.wrong(2, f"moments a b\n{line}\n")
            self.wrong(3, f"moments a b\nrule a a\n{line}\nrule\n")
            self.wrong(4, f"moments a b\nrule a a\nrule b a+1 b-1\n{line}\n\n")

    def test_wrong_terms(self):
        for term in NO_TERMS:
            for words in (term, f"{term} b", f"a {term}", f"{term} {term}"):
                self.wrong(2, f"moments a b\nrule b {words}\n")
                self.wrong(3, f"moments a b\nrule b a\nrule b {words}\nrule\n")
        for number in (10 ** 59, BIG, 10 ** 60 - 1):
            for sign in "+-":
                shift = number if sign == "+" else -number
                self.same(read_book(f"moments a\nrule a a{sign}{number}\n")[0], Rule("a", Term("a", shift)))
                self.same(read_plan(f"moments a\nrule a a{sign}{number}@4\n")[0], RoundRule("a", [("a", shift, 4)]))
                self.wrong(2, f"moments a\nrule a a{sign}0{number}\n")

    def test_backs(self):
        for back in range(1, 5):
            line = f"rule a a+3@{back}"
            self.same(read_plan(f"moments a\n{line}\n").rules(), [RoundRule("a", [("a", 3, back)])])
            self.same(read_plan(f"moments a\nrule a a@{back}\n").rules(), [RoundRule("a", [("a", 0, back)])])
            self.wrong(2, f"moments a\n{line}\n", [read_book])
            self.wrong(2, f"moments a\nrule a a@{back}\n", [read_book])
        for terms in ("a@1 a", "a@2 a@1", "a@1 a@1", "a a", "a a+1", "a+1@1 a@1", "b a", "b a@1", "b@1 a", "a b@1 b",
                      "a b a@1"):
            self.wrong(2, f"moments a b\nrule a {terms}\n", [read_plan])
        for terms in ("a a@1", "a+9 a@1 a-9@2 b b@4", "a@4 b", "a@1 a@2 a@3 a@4 b@1 b@2 b@3 b@4"):
            text = f"moments a b\nrule a {terms}\n"
            self.same(plan_text(read_plan(text)), text)

    def test_terms_at_the_limit(self):
        eight, nine = " ".join(EIGHT), " ".join([*EIGHT, "i"])
        self.same(len(read_book(f"moments {eight}\nrule a {eight}\n")[0].earliest), 8)
        self.wrong(2, f"moments {eight}\nrule a {nine}\n")
        self.wrong(1, f"moments {nine}\nrule a {nine}\n")
        self.same(len(read_plan(f"moments {eight}\nrule a {eight}\n")[0].terms), 8)
        self.wrong(2, f"moments {eight}\nrule a a a@1 {eight[2:]}\n", [read_plan])
        self.same(len(read_plan("moments a b\nrule a a a@1 a@2 a@3 a@4 b b@1 b@2\n")[0].terms), 8)
        self.wrong(2, "moments a b\nrule a a a@1 a@2 a@3 a@4 b b@1 b@2 b@3\n", [read_plan])

    def test_rules_at_the_limit(self):
        for read, most in ((read_book, 100), (read_plan, 30)):
            self.same(len(read("moments a\n" + "rule a a\n" * most)), most)
            self.wrong(most + 2, "moments a\n" + "rule a a\n" * (most + 1), [read])
            self.wrong(most + 2, "moments a\n" + "rule a a\n" * (most + 20), [read])
            self.wrong(most + 1, "moments a\n" + "rule a a\n" * (most - 1) + "rule a\n" + "rule a a\n" * 5, [read])
            self.wrong(most + 2, "moments a\n" + "rule a a\n" * most + "rule a a", [read])
            self.wrong(most + 1, ("moments a\n" + "rule a a\n" * most)[:-1], [read])

    def test_the_first_wrong_line(self):
        self.wrong(2, "moments a b\nrule c a\nrule a\nmoments\n\n")
        self.wrong(1, "moments b a\nrule c a\n")
        self.wrong(3, "moments a b\nrule a b\nrule b\nrule a b")

    def test_the_same_call_made_good(self):
        self.wrong(2, BOOK.replace("shop ann", "shop  ann"), [read_book])
        self.same(read_book(BOOK), SHOP)
        self.same(read_book(BOOK), SHOP)


class EarliestTest(Case):
    def test_equal_ones(self):
        luck = chance(4)
        for size in (2, 11, BIG):
            for _ in range(60):
                names = luck.sample(["a", "b", "zoe", "abcdefgh", "z", "zz", "zzzzzzzz", "rule"], luck.randint(1, 8))
                earliest = Earliest({name: luck.randint(-size, size) for name in names})
                self.same(read_earliest(text=str(earliest)), earliest)
        self.same(read_earliest("ann+3 bob-2"), Earliest.of(ann=3, bob=-2))
        self.same(read_earliest(" ".join(EIGHT)), Earliest(dict.fromkeys(EIGHT, 0)))

    def test_wrong_texts(self):
        for text in ["", " ", "a\n", "\na", "a\nb", "a+1\n", "b a", "a a", "a a+1", "a b a", "a  b", " a", "a ", "a,b",
                     "a b+0", "rule a b", " ".join([*EIGHT, "i"]), "abcdefghi", "A", "a b@1", "ann+3 bob-2\n"]:
            self.fails(InvalidText, {"line": 1}, read_earliest, text)
        for term in NO_TERMS:
            if term not in ("c", "c+3"):
                self.fails(InvalidText, {"line": 1}, read_earliest, term)
                self.fails(InvalidText, {"line": 1}, read_earliest, f"{term} b")
                self.fails(InvalidText, {"line": 1}, read_earliest, f"a {term}")
        self.same(read_earliest("c+3"), Earliest.of(c=3))

    def test_each_sign(self):
        for sign in string.printable:
            if " " <= sign <= "~" and sign != "%":
                for text in (f"a{sign}1", f"a+{sign}1", f"a+1{sign}", f"{sign}a+1", f"a+1{sign}b"):
                    try:
                        made = read_earliest(text)
                    except InvalidText as error:
                        self.same(error.line, 1)
                    else:
                        self.same(str(made), text)
