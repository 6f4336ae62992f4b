"""[13.1]: a house by lines."""

import random
import unittest

from nearestkinds.errors import (BadProgram, BadTable, BadText, Kept, KindError, NeedsItself, NoFacts, NoLine, NoName,
                                 NotClear, NothingDone, NoText, NotRooted, NoUse, NoWish, TooGreat, TooMany, Unclear,
                                 Unmet)
from nearestkinds.houses import House, recovered
from nearestkinds.programs import Program
from nearestkinds.texts import program_text
from nearestkinds.things import Book
from tests.samples import STRANGE, shallow
from tests.slow import DESK, INT
from tests.slow_roots import GARDEN

SMALL = Book((("flag", ("yes", "no")),), (("int", ()), ("ptr", ("kind",)), ("pair", ("kind", "kind"))), ("even", "odd"))
BOOK_LINES = "list flag yes no|head int|head ptr kind|head pair kind kind|claim even|claim odd|"
COUNT = ["family count number kind", "row count all ?0 = 0", "row count ptr ptr(?0) = +(1,!count(?0))"]


class HouseTest(unittest.TestCase):
    def house(self, *lines, book=SMALL):
        """A house to which these deeds have been told."""
        told = House(book)
        for line in lines:
            self.assertEqual(shallow(told.tell, line), "ok", line)
        return told

    def answers(self, house, *pairs):
        for line, answer in pairs:
            journal = house.journal()
            self.assertEqual(shallow(house.tell, line), answer, line)
            self.assertEqual(house.journal(), journal)

    def raises(self, house, error, line, **fields):
        """That a line raises an error, and changes nothing."""
        shown, journal = house.tell("show"), house.journal()
        with self.assertRaises(error) as told:
            shallow(house.tell, line)
        self.assertIs(type(told.exception), error, line)
        self.assertEqual(vars(told.exception), fields, line)
        self.assertEqual((house.tell("show"), house.journal()), (shown, journal))

    def test_empty(self):
        house = self.house()
        self.answers(house, ("show", BOOK_LINES), ("rooted", "yes"), ("ends", "yes"), ("weights", "yes"))
        self.assertEqual(house.journal(), "")
        self.answers(self.house(book=Book((), (), ())), ("show", ""))
        self.answers(self.house(book=DESK), ("rooted", "no"))

    def test_deeds(self):
        house = self.house(*COUNT)
        shown = BOOK_LINES + "family count number kind|row all ?0 = 0|"
        self.answers(house, ("show", shown + "row ptr ptr(?0) = +(1,!count(?0))|"))
        house.tell("take count ptr")
        self.answers(house, ("show", shown))
        house.tell("row count more ptr(?3) if &(even(?3),odd(?3)) = 7")
        self.answers(house, ("show", shown + "row more ptr(?3) if &(even(?3),odd(?3)) = 7|"))
        house.tell("family f kind flag kind")
        self.answers(house, ("show", shown + "row more ptr(?3) if &(even(?3),odd(?3)) = 7|family f kind flag kind|"))
        house.tell("row count two pair(?0,?1) = 2")
        self.answers(house,
                     ("show",
                      shown + "row more ptr(?3) if &(even(?3),odd(?3)) = 7|row two pair(?0,?1) = 2|"
                              "family f kind flag kind|"))
        house.tell("take count all")
        self.answers(house,
                     ("show", BOOK_LINES + "family count number kind|row more ptr(?3) if &(even(?3),odd(?3)) = 7|"
                                                  "row two pair(?0,?1) = 2|family f kind flag kind|"))
        self.assertEqual(house.journal().splitlines(), COUNT + [
            "take count ptr", "row count more ptr(?3) if &(even(?3),odd(?3)) = 7", "family f kind flag kind",
            "row count two pair(?0,?1) = 2",
            "take count all"])

    def test_facts(self):
        house = self.house("family f kind kind", "row f a ?0 = ?0", "row f b ?0 if even(?0) = int()")
        self.answers(house, ("choice f ~0", "a"), ("worth f ~0", "~0"))
        house.tell("fact even ~0")
        self.answers(house, ("choice f ~0", "b"), ("worth f ~0", "int()"), ("choice f ~1", "a"))
        house.tell("fact odd ~1")
        house.tell("fact even ~0")
        house.tell("fact even ptr(~1)")
        self.answers(house, ("choice f ptr(~1)", "b"), ("choice f ~1", "a"))
        house.tell("undo")
        self.answers(house, ("choice f ptr(~1)", "a"), ("choice f ~0", "b"))
        house.tell("undo")
        self.answers(house, ("choice f ~0", "b"))
        house.tell("undo")
        house.tell("undo")
        self.answers(house, ("choice f ~0", "a"))
        self.assertEqual(house.journal().count("fact"), 0)

    def test_undo_of_each_deed(self):
        lines = COUNT + ["family f kind kind", "row f a ?0 = ?0", "fact even int()", "take count all",
                         "row f b ptr(?0) if even(?0) = ptr(?0)",
                         "take f a", "row count all ?0 = 3", "take count ptr"]
        house = House(SMALL)
        shown = []
        for line in lines:
            shown.append((house.tell("show"), house.journal(),
                          house.tell("choice f ptr(int())") if "b ptr" in house.journal() else None))
            self.assertEqual(house.tell(line), "ok")
        for line in lines[::-1]:
            house.tell("weights")
            self.assertEqual(house.tell("undo"), "ok")
            show, journal, choice = shown.pop()
            self.assertEqual((house.tell("show"), house.journal()), (show, journal))
            if choice:
                self.assertEqual(house.tell("choice f ptr(int())"), choice)
        for _ in range(3):
            self.raises(house, NothingDone, "undo")

    def test_a_row_taken_away_stands_again_at_its_place(self):
        house = self.house("family f number kind", "row f a int() = 1", "row f b ptr(?0) = 2",
                           "row f c pair(?0,?1) = 3")
        shown = house.tell("show")
        house.tell("take f b")
        self.assertEqual(house.tell("show"), shown.replace("row b ptr(?0) = 2|", ""))
        house.tell("row f d ?0 = 4")
        house.tell("undo")
        house.tell("undo")
        self.assertEqual(house.tell("show"), shown)
        self.raises(house, Kept, "row f b ptr(?0) = 2", name="b")

    def test_undo_is_no_deed(self):
        house = self.house(*COUNT)
        house.tell("undo")
        house.tell("undo")
        self.assertEqual(house.journal(), "family count number kind\n")
        house.tell("row count x int() = 5")
        house.tell("undo")
        house.tell("undo")
        self.raises(house, NothingDone, "undo")
        self.raises(house, NoName, "clear count", name="count")

    def test_choices(self):
        house = self.house("family f number kind kind", "row f one int();?0 = 1", "row f two ?0;int() = 2")
        self.answers(house, ("choice f int();ptr(~3)", "one"), ("choice f ~0;int()", "two"),
                     ("choice f ~0;~0", "none"), ("choice f int();int()", "many one two"),
                     ("clear f", "no"), ("missing f", "1"))
        house.tell("row f three int();int() = 3")
        self.answers(house, ("choice f int();int()", "three"), ("clear f", "yes"), ("missing f", "0"))
        house.tell("row f all ?0;?1 = 0")
        self.answers(house, ("choice f ~0;~0", "all"), ("choice f int();int()", "three"))

    def test_worths(self):
        house = self.house(*COUNT, "family text flag number", "row text a ?0 = <(?0,3,yes,no)",
                           "family deep kind number",
                           "row deep a ?0 = <(?0,1,int(),ptr(!deep(-(?0,1))))", "family up number number",
                           "row up a ?0 = !up(+(?0,1))", "row up z 2500 = 9",
                           "family big number number", "row big a ?0 = *(10,!big(-(?0,1)))", "row big z 0 = -1",
                           "family not number kind",
                           "row not a ptr(?0) = !not(?0)", "row not b pair(?0,?0) = !not(pair(?0,?0))")
        self.answers(house, ("worth count ptr(ptr(~4))", "2"), ("worth text 2", "yes"), ("worth text 3", "no"),
                     ("worth deep 3", "ptr(ptr(ptr(int())))"),
                     ("worth up 501", "9"), ("worth big 999", "-1" + "0" * 999), ("worth count int()", "0"))
        self.raises(house, TooMany, "worth up 500", most=2000)
        self.raises(house, TooGreat, "worth big 1000")
        self.raises(house, TooGreat, "worth deep 200")
        self.raises(house, Unmet, "worth not ptr(ptr(int()))", family="not", use=(INT,))
        self.raises(house, NeedsItself, "worth not pair(int(),int())", family="not", use=(("pair", INT, INT),))
        house.tell("row not c pair(?0,ptr(?1)) = 3")
        self.raises(house, Unclear, "worth not ptr(pair(ptr(~0),ptr(~0)))", family="not",
                    use=(("pair", ("ptr", ("~", 0)), ("ptr", ("~", 0))),))

    def test_early(self):
        house = self.house("family f number kind", "row f a ptr(?0) = 1", "row f b ptr(ptr(?0)) = 2", 
                           "row f c ptr(int()) = 3")
        self.answers(house, ("early f ?0", "open"), ("early f ptr(?7)", "open"), ("early f ptr(ptr(?999))", "b"),
                     ("early f int()", "none"),
                     ("early f pair(?0,?1)", "none"), ("early f ptr(pair(?0,?0))", "a"), ("early f ptr(int())", "c"))
        house.tell("row f d ptr(ptr(?0)) if even(?0) = 4")
        self.answers(house, ("early f ptr(ptr(?0))", "open"))
        # Facts play no part.
        house.tell("fact even int()")
        self.answers(house, ("early f ptr(ptr(int()))", "open"))
        self.raises(house, NoWish, "early f ~0")
        self.raises(house, NoWish, "early f ?0;?1")
        self.raises(house, NoWish, "early f 3")
        self.raises(house, NoWish, "early f ptr(ptr(ptr(ptr(ptr(?0)))))")
        house.tell("row f e pair(?0,int()) = 5")
        house.tell("row f g pair(int(),?0) = 6")
        self.raises(house, NotClear, "early f ?0")
        self.raises(house, NotClear, "early f ~0")
        self.raises(house, BadText, "early f (", place=0)

    def test_whole_programs(self):
        house = self.house("family f kind flag kind", "row f a ?0;ptr(?1) = !f(no,?1)", book=GARDEN)
        self.answers(house, ("rooted", "yes"), ("ends", "yes"), ("weights", "yes"))
        house.tell("row f b yes;pair(?0,?1) = !f(yes,pair(?1,?0))")
        self.answers(house, ("rooted", "yes"), ("ends", "no"), ("weights", "no"))
        house.tell("undo")
        house.tell("row f b yes;pair(?0,?1) = !f(no,!f(no,?0))")
        self.answers(house, ("rooted", "no"), ("weights", "no"))
        self.raises(house, NotRooted, "ends")
        house.tell("undo")
        house.tell("row f b yes;pair(?0,?1) = !f(yes,?0)")
        self.answers(house, ("rooted", "yes"), ("ends", "yes"), ("weights", "yes"))
        house.tell("row f c ?0;tri(?1,?2,?3) = !f(?0,ptr(ptr(ptr(ptr(?1)))))")
        self.answers(house, ("rooted", "yes"), ("ends", "yes"), ("weights", "no"))

    def test_no_lines(self):
        house = self.house(*COUNT)
        for line in STRANGE + [
            "", " ", "show ", " show", "show show", "Show", "show\n", "\nshow", "undo undo", "undo\n", "rooted x",
            "ends ", "weights  ", "journal", "tell",
            "family", "family f", "family f ", "family f kind ", "family f kind  kind", "family  f kind kind",
            "family F kind", "family f Kind", "family f kind 3",
            "family abcdefghi kind kind", "family f kind kind\nshow", "families f kind kind",
            "row", "row count", "row count a", "row count a ?0", "row count a ?0 =", "row count a ?0 = ",
            "row count a  = ?0", "row count  ?0 = ?0", "row  a ?0 = ?0",
            "row count a ?0 == 3", "row count a ?0 = 3 ", "row count a ?0 = 3 3", "row count A ?0 = 3",
            "row Count a ?0 = 3", "row count a ?0  = 3", "row a ?0 = 3",
            "row count a ?0 if = 3", "row count a ?0 if  = 3", "row count a ?0 if even(?0) 3",
            "row count a ?0 if even(?0) =", "row count a ?0 of even(?0) = 3",
            "row count a ?0 if even(?0) = 3 3", "row count a ?0 if even (?0) = 3", "row count a ?0; ?1 = 3",
            "take", "take count", "take count ", "take count a b", "take count A", "take Count a", "take  count a",
            "fact", "fact even", "fact even ", "fact even int() x",
            "fact Even int()", "fact  even int()", "fact 3 int()", "fact even int( )", "choice", "choice count",
            "choice count ", "choice Count int()", "choice count int() x",
            "worth count", "worth count ", "worth 3 int()", "clear", "clear ", "clear count x", "clear Count",
            "missing", "missing count ", "early", "early count", "early  count ?0",
        ]:
            if line != "undo" and line != "show":
                self.raises(house, NoLine, line)

    def test_names_that_are_not_kept(self):
        house = self.house(*COUNT)
        for line in ["row f a ?0 = 3", "row f all ?0 = 3", "row f a ( if ) = (", "take f all", "take f f",
                     "choice f int()", "choice f (", "worth f int()", "worth f 00", "clear f",
                     "missing f", "early f ?0", "early f ,", "row f f ?0;?0 = ~0"]:
            self.raises(house, NoName, line, name="f")
        self.raises(house, NoName, "take count count", name="count")
        self.raises(house, NoName, "take count none", name="none")
        house.tell("take count all")
        self.raises(house, NoName, "take count all", name="all")
        # Claims are no names that are kept.
        self.raises(house, NoFacts, "fact count int()")

    def test_names_that_are_kept(self):
        house = self.house(*COUNT, "family f kind kind")
        for line in ["family count number kind", "family count kind", "family count none none"]:
            self.raises(house, Kept, line, name="count")
        for line in ["row count all ptr(int()) = 3", "row count all ( if ) = (", "row count all ?0 = ~0"]:
            self.raises(house, Kept, line, name="all")
        # A label of another family is free here, and so is a family's name, or one that was taken away.
        for line in ["row f all ?0 = ?0", "row f f ptr(?0) = ?0", "family all kind kind", "take count all",
                     "row count all ?0 = 7", "family kind kind kind"]:
            self.assertEqual(house.tell(line), "ok")

    def test_texts_in_their_order(self):
        house = self.house(*COUNT)
        for line, place in [
            ("row count a ptr(?0 if even(0) = ?", 6), ("row count a ptr(?0) if even(0) = ?", 5),
            ("row count a ptr(?0) if even(?0) = ?", 1), ("row count a ( = )", 0),
            ("row count a ?0 = )", 0), ("row count a = = =", 0), ("row count a if if if = if", 2),
            ("row count a ?0; = 3", 3), ("row count a ?1000 = 3", 4),
            ("choice count ptr(ptr)x", 8), ("choice count ;", 0), ("choice count 3;00", 3), ("worth count -", 1),
            ("early count ptr(", 4), ("fact even ptr(", 4),
            ("fact none ptr(", 4), ("fact even int();int()", 5), ("fact even " + "ptr(" * 201, 800),
        ]:
            self.raises(house, BadText, line, place=place)
        # "if" is a word, and so it may be a bundle.
        self.raises(house, BadTable, "row count a if if even(?0) = if", part=2)

    def test_what_tables_and_programs_raise(self):
        house = self.house(*COUNT)
        for line, part in [("family f kind", "sorts"), ("family f none", "sorts"), ("family f kind none", "sorts"),
                           ("family f none none", "sorts"),
                           ("family f kind kind kind kind kind kind", "sorts"), ("row count a 3 = 3", 2),
                           ("row count a ?7 = 3", 2), ("row count a ?0;?0 = 3", 2), ("row count a ~0 = 3", 2),
                           ("row count a !count(?0) = 3", 2), ("row count a ptr(?0) = yes", 2),
                           ("row count a ptr(ptr(?0)) if odd(?1) = 3", 2), ("row count a int() if none(?0) = ~0", 2)]:
            self.raises(house, BadTable, line, part=part)
        for line, part in [("family f none kind", 1), ("row count a int() = yes", 0), ("row count a int() = ?0", 0),
                           ("row count a int() = ~0", 0), ("row count a int() = int()", 0),
                           ("row count a int() = !f(3)", 0), ("row count a int() = !count(3)", 0),
                           ("row count a int() = " + "+(1," * 10 + "2" + ")" * 10, 0)]:
            self.raises(house, BadProgram, line, part=part)
        for name in "fghijkl":
            house.tell(f"family {name} kind kind")
        self.raises(house, BadProgram, "family m kind kind", part="families")
        self.raises(house, BadTable, "family m kind none", part="sorts")
        self.raises(house, BadProgram, "row l a ?0 = 3", part=7)
        house = self.house("family f kind kind", *[f"row f {name} {'ptr(' * k}int(){')' * k} = int()" for k,
                                                   name in enumerate("abcde")],
                           *[f"row f {name} pair({'ptr(' * k}int(){')' * k},?0) = ?0" for k,
                             name in enumerate("fghi")], "row f j ?0 = ?0")
        self.raises(house, BadTable, "row f k pair(?0,?0) = int()", part="rows")

    def test_what_functions_raise(self):
        house = self.house(*COUNT)
        for word in ("choice", "worth"):
            for text in ("?0", "3", "int();int()", "ptr(?0)", "!count(int())", "none()", "yes", "pair(int())",
                         "+(1,2)"):
                self.raises(house, NoUse, f"{word} count {text}")

    def test_no_facts(self):
        house = self.house("fact even int()")
        for line in ["fact none int()", "fact count int()", "fact even ?0", "fact even ptr(?0)", "fact even 3",
                     "fact even yes", "fact even none()", "fact even !f(3)", "fact even +(1,2)",
                     "fact even ptr(3)", "fact even int(int())", "fact even <(1,2,int(),int())"]:
            self.raises(house, NoFacts, line)
        for n in range(199):
            house.tell(f"fact odd ~{n}")
        self.raises(house, NoFacts, "fact odd ~199")
        self.raises(house, NoFacts, "fact even int()")
        house.tell("undo")
        self.assertEqual(house.tell("fact even int()"), "ok")

    def test_several_errors_due_at_once(self):
        house = self.house(*COUNT)
        for line, error in [
            ("row f all ( if ( = (\n", NoLine), ("row f all ( if ( = (", NoName), ("row count all ( if ( = (", Kept),
            ("row count a ( if ( = (", BadText), ("row count a 3 if even(?1) = (", BadText),
            ("row count a 3 if even(?1) = ?5", BadTable), ("row count a int() = ?5", BadProgram),
            ("take f none", NoName), ("fact none (", BadText), ("fact none ?0", NoFacts),
            ("family count none", Kept), ("family f none", BadTable), ("choice f (", NoName),
            ("choice count (", BadText), ("choice count ?0", NoUse),
        ]:
            with self.assertRaises(error):
                house.tell(line)

    def test_questions_change_nothing(self):
        house = self.house(*COUNT, "fact even int()")
        shown, journal = house.tell("show"), house.journal()
        for line in ["choice count int()", "worth count ptr(int())", "clear count", "missing count", "early count ?0",
                     "rooted", "weights", "show"]:
            house.tell(line)
            self.assertEqual((house.tell("show"), house.journal()), (shown, journal))

    def test_deep_texts(self):
        house = self.house(*COUNT)
        deep = "ptr(" * 199 + "int()" + ")" * 199
        self.answers(house, (f"worth count {deep}", "199"), (f"choice count {deep}", "ptr"))
        self.assertEqual(shallow(house.tell, f"fact even {deep}"), "ok")
        self.raises(house, BadTable, f"row count a {deep} = 3", part=2)
        self.raises(house, BadProgram, f"row count a int() = {deep}", part=0)

    def test_a_house_is_equal_to_itself_alone(self):
        house, other = House(SMALL), House(SMALL)
        self.assertEqual(house, house)
        self.assertNotEqual(house, other)
        self.assertNotEqual(house, SMALL)

    def test_two_houses_know_nothing_of_one_another(self):
        house, other = House(SMALL), House(SMALL)
        house.tell("family f kind kind")
        self.raises(other, NoName, "clear f", name="f")
        self.raises(other, NothingDone, "undo")
        other.tell("family f number number")
        other.tell("fact even int()")
        self.assertEqual(house.journal(), "family f kind kind\n")
        house.tell("row f a ?0 if even(?0) = ?0")
        self.answers(house, ("choice f int()", "none"), ("clear f", "yes"))

    def test_random(self):
        """Against a house that is made anew from its deeds each time."""
        chance = random.Random(1301)
        seen = {}
        for _ in range(25):
            house, deeds = House(SMALL), []
            for _ in range(40):
                line = self.some_line(chance)
                if line == "undo":
                    if not deeds:
                        self.raises(house, NothingDone, "undo")
                        continue
                    self.assertEqual(house.tell(line), "ok")
                    deeds.pop()
                else:
                    other = self.house(*deeds)
                    told, again = self.outcome(house, line), self.outcome(other, line)
                    self.assertEqual(told, again)
                    seen[told[0]] = seen.get(told[0], 0) + 1
                    if told == ("ok", "ok") and line.split(" ")[0] in ("family", "row", "take", "fact"):
                        deeds.append(line)
                self.assertEqual(house.journal(), "".join(line + "\n" for line in deeds))
                self.assertEqual(house.tell("show"), self.house(*deeds).tell("show"))
        self.assertGreater(seen["ok"], 300)
        self.assertGreater(len(seen), 6)

    def outcome(self, house, line):
        try:
            return ("ok", house.tell(line))
        except KindError as error:
            return (type(error).__name__, vars(error))

    def some_line(self, chance):
        """A line by chance; not seldom a right one."""
        name, label = chance.choice("fgh"), chance.choice("abc")
        eye = chance.choice(["?0", "ptr(?0)", "pair(?0,?1)", "int()", "pair(?0,?0)", "ptr(ptr(?0))"])
        kind = chance.choice(["int()", "ptr(int())", "~0", "pair(int(),~1)", "ptr(ptr(int()))"])
        body = chance.choice(["?0", "int()", "ptr(?0)", f"!{chance.choice('fgh')}(?0)", f"!{name}(ptr(?0))", "3"])
        return chance.choice([
            f"family {name} kind kind", f"row {name} {label} {eye} = {body}", f"row {name} {label} {eye} = {body}",
            f"row {name} {label} {eye} if even(?0) = {body}",
            f"take {name} {label}", f"fact even {kind}", "undo", f"choice {name} {kind}", f"worth {name} {kind}",
            f"clear {name}", f"missing {name}", f"early {name} {eye}",
            "rooted", "ends", "weights", "show"])


class RecoveredTest(unittest.TestCase):
    lines = COUNT + ["fact even int()", "family f kind flag kind", "take count all",
                     "row f a yes;?0 if |(even(?0),odd(?0)) = ptr(?0)", "row count all ?7 = -3"]

    def told(self, text, many, book=SMALL):
        """That just the first so many lines are told."""
        house, signs = shallow(recovered, book, text)
        self.assertIs(type(house), House)
        other = House(book)
        for line in text.split("\n")[:many]:
            self.assertEqual(other.tell(line), "ok")
        self.assertEqual(signs, len(other.journal()))
        self.assertEqual(house.journal(), text[:signs])
        self.assertEqual(house.journal(), other.journal())
        self.assertEqual(house.tell("show"), other.tell("show"))
        return house

    def test_no_text(self):
        for thing in STRANGE:
            if type(thing) is not str:
                with self.assertRaises(NoText):
                    shallow(recovered, SMALL, thing)

    def test_ordinary(self):
        self.assertIs(type(recovered(SMALL, "")), tuple)
        self.told("", 0)
        text = "".join(line + "\n" for line in self.lines)
        house = self.told(text, len(self.lines))
        self.assertEqual(house.tell("choice f yes;int()"), "a")
        house.tell("undo")
        self.assertEqual(house.journal(), "".join(line + "\n" for line in self.lines[:-1]))
        for _ in self.lines[:-1]:
            house.tell("undo")
        with self.assertRaises(NothingDone):
            house.tell("undo")

    def test_cut_anywhere(self):
        text = "".join(line + "\n" for line in self.lines)
        for k in range(len(text) + 1):
            self.told(text[:k], text[:k].count("\n"))

    def test_a_line_that_is_no_deed(self):
        for other in ["undo", "show", "rooted", "clear count", "choice count int()", "", " ", "family",
                      "family count kind kind", "row count ptr int() = 3", "row count x 3 = 3", "take count none",
                      "take f a", "fact none int()", "fact even ?0", "row count x int() = yes", "#", "worth count ("]:
            for k in range(3, len(self.lines) + 1):
                if other == "take f a" and k > 6:
                    continue
                lines = self.lines[:k] + [other] + self.lines[k:]
                self.told("".join(line + "\n" for line in lines), k)
                self.told("\n".join(lines), k)

    def test_signs_put_in(self):
        text = "".join(line + "\n" for line in self.lines[:4])
        for k in range(len(text) + 1):
            for sign in " x0(":
                other = text[:k] + sign + text[k:]
                house, many = shallow(recovered, SMALL, other)
                self.assertEqual(house.journal(), other[:many])
                self.assertTrue(many == 0 or other[many - 1] == "\n")
                self.assertEqual(recovered(SMALL, house.journal())[1], many)

    def test_the_fact_of_journals(self):
        """A journal leads to the house as it was, of a random house too; cut, to one as it was behind a deed."""
        chance = random.Random(1302)
        for _ in range(15):
            house, shown = House(SMALL), {}
            for _ in range(40):
                try:
                    house.tell(HouseTest.some_line(None, chance))
                except KindError:
                    continue
            journal = house.journal()
            again = House(SMALL)
            shown[""] = again.tell("show")
            for line in journal.splitlines():
                again.tell(line)
                shown[again.journal()] = again.tell("show")
            for k in range(len(journal) + 1):
                told, many = recovered(SMALL, journal[:k])
                self.assertEqual(told.tell("show"), shown[journal[:many]])
                self.assertEqual(many, journal[:k].rfind("\n") + 1)
            self.assertEqual(recovered(SMALL, journal)[0].tell("show"), house.tell("show"))

    def test_other_books(self):
        text = "family f kind kind\nrow f a ?0 = ?0\nrow f b ptr(?0) = ?0\nfact even int()\n"
        self.told(text, 4)
        self.told(text, 2, Book((), (), ()))
        self.told(text, 3, Book((), (("ptr", ("kind",)),), ()))
        self.assertEqual(recovered(SMALL, text)[0].tell("show"),
                         program_text(Program(SMALL, recovered(SMALL, text)[0].program.families)).replace("\n", "|"))


if __name__ == "__main__":
    unittest.main()
