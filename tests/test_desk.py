import random
import re

from helper import Refusing, anything, deed_by_chance, entry_text, kept_by, outcome
from parentlines.desk import Desk
from parentlines.errors import NoRow
from parentlines.house import House, house_of
from parentlines.worldtexts import read_world, world_text

ROWS = (
    "make o", "make x", "make b o", "make c o", "make d b c", "give o n plain -4", "give b n behind onward ask m times 2",
    "give d m ahead k 3", "give o s shut add 2", "give d r ahead r 1", "begin p d", "begin q x", "put p k 10")

NAME, NUMBER = "[a-z]{1,8}", "(?:0|-?[1-9][0-9]{0,17})"
STEP = f"(?:add {NUMBER}|times (?:0|-?[1-9])|ask {NAME}|onward)"
ENTRY = f"(?:plain {NUMBER}|ahead {NAME} {NUMBER}|(?:behind|shut)(?: {STEP}){{0,4}})"
ROW = re.compile(
    f"(?:make|change) {NAME}(?: {NAME})*|(?:let|end|line) {NAME}|give {NAME} {NAME} {ENTRY}"
    f"|(?:take|begin|turn|drop|way|found) {NAME} {NAME}|put {NAME} {NAME} {NUMBER}"
    f"|ask {NAME} {NAME}(?: {NAME})?|counts|show|new")


def desk_with(rows=ROWS):
    desk = Desk()
    for row in rows:
        assert desk.take(row) == "done", row
    return desk


class Deeds(Refusing):
    def check(self, row, word, *handed):
        """A row does what the house's method does, and is answered done."""
        desk = desk_with()
        house = house_of(desk.house().world())
        getattr(house, word)(*handed)
        self.assertEqual(desk.take(row), "done")
        self.assertEqual(desk.house().world(), house.world())

    def test_each(self):
        self.check("make a", "make", "a", ())
        self.check("make a d x", "make", "a", ("d", "x"))
        self.check("change d", "change", "d", ())
        self.check("change d c b", "change", "d", ("c", "b"))
        self.check("give x n plain 5", "give", "x", "n", ("plain", 5))
        self.check("give x n plain -5", "give", "x", "n", ("plain", -5))
        self.check("give x n ahead plain 0", "give", "x", "n", ("ahead", "plain", 0))
        self.check("give x n behind", "give", "x", "n", ("behind", ()))
        self.check("give x n shut", "give", "x", "n", ("shut", ()))
        self.check("give o n behind add 5 onward ask onward times -9", "give", "o", "n",
                   ("behind", (("add", 5), ("onward",), ("ask", "onward"), ("times", -9))))
        self.check("give o n plain 999999999999999999", "give", "o", "n", ("plain", 10 ** 18 - 1))
        self.check("give o n shut add -999999999999999999", "give", "o", "n", ("shut", (("add", 1 - 10 ** 18),)))
        self.check("take o n", "take", "o", "n")
        self.check("begin r d", "begin", "r", "d")
        self.check("begin d d", "begin", "d", "d")
        self.check("end p", "end", "p")
        self.check("turn p x", "turn", "p", "x")
        self.check("put p n 5", "put", "p", "n", 5)
        self.check("put p m -5", "put", "p", "m", -5)
        self.check("put p n 0", "put", "p", "n", 0)
        self.check("put p n -999999999999999999", "put", "p", "n", 1 - 10 ** 18)
        self.check("drop p k", "drop", "p", "k")
        self.check("drop p m", "drop", "p", "m")

    def test_let(self):
        desk = desk_with(ROWS + ("give x n plain 1", "end q", "let x"))
        self.assertEqual([kind for kind, parents in desk.house().world()[0]], ["b", "c", "d", "o"])
        self.assertEqual(desk.house().world()[1], desk_with().house().world()[1])

    def test_names_like_a_row_s_words(self):
        desk = desk_with(("make make", "make let make", "give make plain plain 3", "begin end let", "put end put 4"))
        self.assertEqual(desk.take("ask end plain"), "3")
        self.assertEqual(desk.take("ask end put"), "4")
        self.assertEqual(desk.take("line let"), "let make")


class Told(Refusing):
    def check(self, *answers):
        desk = desk_with()
        for row, answer in answers:
            told = desk.take(row)
            self.assertIs(type(told), str)
            self.assertEqual(told, answer, row)

    def test_ask(self):
        self.check(("ask p k", "10"), ("ask p m", "13"), ("ask p n", "18"), ("ask p n b", "-4"), ("ask p n o", "Missing"),
                   ("ask p n x", "NotAbove"), ("ask p s", "2"), ("ask p r", "Endless"), ("ask p z", "Missing"),
                   ("ask z n", "NoThing"))

    def test_line(self):
        self.check(("line d", "d b c o"), ("line x", "x"), ("line z", "NoKind"))

    def test_way(self):
        self.check(("way d d", "d"), ("way d b", "d b"), ("way b o", "b o"), ("way b d", "-"), ("way x o", "-"),
                   ("way d z", "NoKind"), ("way z d", "NoKind"))
        told = desk_with().take("way d o")
        self.assertIn(told, ("d b o", "d c o"))

    def test_found(self):
        self.check(("found d n", "b behind onward ask m times 2"), ("found c n", "o plain -4"), ("found d m", "d ahead k 3"),
                   ("found d s", "o shut add 2"), ("found x n", "-"), ("found d z", "-"), ("found z n", "NoKind"))

    def test_counts(self):
        # The way of k was walked when the desk's house was made.
        self.check(("counts", "4 0"), ("ask p m", "13"), ("counts", "5 1"), ("ask p m", "13"), ("counts", "5 1"),
                   ("ask p n", "18"), ("counts", "9 2"), ("found x n", "-"), ("counts", "10 2"), ("found d m", "d ahead k 3"),
                   ("line d", "d b c o"), ("way d b", "d b"), ("counts", "10 2"))

    def test_show(self):
        desk = desk_with()
        self.assertEqual(desk.take("show"), world_text(desk.house().world()))
        self.assertEqual(desk.take("show"), (
            "kind b o\nkind c o\nkind d b c\nkind o\nkind x\nname b n behind onward ask m times 2\nname d m ahead k 3\n"
            "name d r ahead r 1\nname o n plain -4\nname o s shut add 2\nthing p d k 10\nthing q x\n"))
        self.assertEqual(Desk().take("show"), "")

    def test_refusals_by_the_name_of_their_class(self):
        self.check(
            ("make d", "Taken"), ("make d z", "Taken"), ("make a z", "NoParents"), ("make a b b", "NoParents"),
            ("make a a", "NoParents"), ("make a b c d o x", "NoParents"), ("make a o b", "Ring"),
            ("change z", "NoKind"), ("change z y", "NoKind"), ("change d z", "NoParents"), ("change o d", "Round"),
            ("change d d", "Round"), ("change d o b", "Ring"), ("let z", "NoKind"), ("let o", "InUse"), ("let x", "InUse"),
            ("let d", "InUse"), ("give z n plain 1", "NoKind"), ("take z n", "NoKind"), ("take d n", "NoName"),
            ("begin p d", "Taken"), ("begin p z", "Taken"), ("begin a z", "NoKind"), ("end z", "NoThing"),
            ("turn z d", "NoThing"), ("turn z z", "NoThing"), ("turn p z", "NoKind"), ("put z n 1", "NoThing"),
            ("put p s 1", "Shut"), ("put p r 1", "Endless"), ("drop z n", "NoThing"), ("drop p s", "Shut"),
            ("drop p r", "Endless"), ("drop p n", "Missing"), ("ask z n", "NoThing"), ("ask z n z", "NoThing"),
            ("ask p z z", "NotAbove"), ("ask p z", "Missing"), ("ask p r", "Endless"), ("line z", "NoKind"),
            ("way z z", "NoKind"), ("found z z", "NoKind"))

    def test_what_is_refused_changes_nothing_but_what_is_kept(self):
        desk = desk_with()
        world = desk.house().world()
        for row in ("make d", "change o d", "let x", "take d n", "put p s 1", "drop p n", "ask p r"):
            desk.take(row)
        self.assertEqual(desk.house().world(), world)
        self.assertIn(("s", "", "o"), desk.house().kept_finds("d"))
        self.assertEqual(desk.house().reckoned(), 1)


class NoRows(Refusing):
    def check(self, desk, text):
        """No row, and nothing is changed by it."""
        house, kept = desk.house(), kept_by(desk.house())
        self.refused(NoRow, desk.take, text)
        self.assertIs(desk.house(), house)
        self.assertEqual(kept_by(house), kept)

    def test_anything(self):
        desk = desk_with()
        for thing in anything() + ["", b"show", ["show"], ("show",), ["make", "a"]]:
            self.check(desk, thing)

    def test_a_word_too_many_or_too_few(self):
        desk = desk_with()
        for row in ("make", "change", "let", "let x o", "give", "give o", "give o n", "give o n plain", "give o n plain 1 1",
                    "take", "take o", "take o n n", "begin", "begin a", "begin a d d", "end", "end p p", "turn", "turn p",
                    "turn p d d", "put", "put p", "put p n", "put p n 1 1", "drop", "drop p", "drop p n n", "ask", "ask p",
                    "ask p n b b", "line", "line d d", "way", "way d", "way d b o", "found", "found d", "found d n b",
                    "counts counts", "counts d", "show d", "show show", "new new", "new d"):
            self.check(desk, row)

    def test_blanks(self):
        desk = desk_with()
        for row in ("make a d x", "let x", "give x n behind add 1 onward", "put p n 5", "ask p n", "counts", "show", "new"):
            for at in [at for at, sign in enumerate(row) if sign == " "] + [0, len(row)]:
                for blank in (" ", "\t", "\n", "\u00a0"):
                    self.check(desk, row[:at] + blank + row[at:])
            for other in ("\t", "\n", "  ", "_", ","):
                if " " in row:
                    self.check(desk, row.replace(" ", other, 1))

    def test_other_words(self):
        desk = desk_with()
        for row in ("a", "Make a", "MAKE a", "let_go x", "letgo x", "tell p n", "world", "walked", "rests p n", "stamp d",
                    "kept_finds d", "house", "make_kind a", "done", "-", "Show", "news", "give", "kind a", "thing p d"):
            self.check(desk, row)

    def test_names_that_are_none(self):
        desk = desk_with()
        for name in ("A", "aB", "abcdefghi", "a1", "1", "-", "a-b", "\u00e9", "a\n", "\n"):
            for row in ("make N", "make a N", "make a d N", "change N", "change d N", "let N", "give N n plain 1",
                        "give d N plain 1", "give d n ahead N 1", "give d n behind ask N", "take N n", "take d N", "begin N d",
                        "begin a N", "end N", "turn N d", "turn p N", "put N n 1", "put p N 1", "drop N n", "drop p N",
                        "ask N n", "ask p N", "ask p n N", "line N", "way N d", "way d N", "found N n", "found d N"):
                self.check(desk, row.replace("N", name))

    def test_numbers_that_are_none(self):
        desk = desk_with()
        for number in ("n", "+1", "01", "-0", "00", "-01", "--1", "-", "1.0", "1e2", "1_0", "\u0661", "1\n", "0x1",
                       "1" * 19, "-" + "1" * 19, "1" + "0" * 18, "0" * 19, "9" * 30, "-" * 18 + "1", "1" * 5000):
            for row in ("put p n N", "give d n plain N", "give d n ahead m N", "give d n behind add N", "give d n shut times N"):
                self.check(desk, row.replace("N", number))

    def test_entries_that_are_none(self):
        desk = desk_with()
        for entry in ("plain", "plain n", "plain 1 2", "ahead", "ahead m", "ahead 1 m", "ahead m 1 1", "behind times 10",
                      "shut times -10", "behind add", "behind ask", "behind ask 1", "behind onward 1", "behind plain 1",
                      "behind onward onward onward onward onward", "add 1", "onward", "ask m", "times 2", "Plain 1", "plains 1",
                      "shut add 1 add 1 add 1 add 1 add 1", "behind add 1 times"):
            self.check(desk, f"give d n {entry}")
            self.check(desk, f"give z n {entry}")

    def test_no_row_goes_ahead_of_a_refusal(self):
        desk = desk_with()
        for row in ("make d D", "change z Z", "ask z N", "put z n 01", "give z n plain 01", "turn z D", "found z N"):
            self.check(desk, row)

    def test_rows_spoilt_by_chance(self):
        chance = random.Random(91)
        rows = [row for row in ROWS] + ["ask p n", "ask p n b", "line d", "way d o", "found d n", "counts", "show", "take d n",
                                        "turn p d", "end q", "drop p k", "change d c b", "let x",
                                        "give d n behind add 5 times -3 ask m onward"]
        parts = rows + ["1", "-1", "0", "10", "9", "-", "a", "abcdefgh", "onward", "add", "ask", "times", "plain", "shut"]
        seen = []
        for turn in range(6000):
            desk = desk_with() if turn % 50 == 0 else desk
            words = chance.choice(rows).split(" ")
            at = chance.randrange(len(words))
            sort = chance.randrange(4)
            if sort == 0:
                del words[at]
            elif sort == 1:
                words.insert(at, chance.choice(chance.choice(parts).split(" ")))
            elif sort == 2:
                words[at] = chance.choice(chance.choice(parts).split(" "))
            else:
                sign = chance.randrange(len(words[at]) + 1)
                words[at] = words[at][:sign] + chance.choice("a1-0 Z\n") + words[at][sign + chance.randrange(2):]
            row = " ".join(words)
            fits = ROW.fullmatch(row) is not None
            seen.append(fits)
            if fits:
                self.assertIs(type(desk.take(row)), str, row)
            else:
                self.check(desk, row)
        self.assertGreater(seen.count(True), 1000)
        self.assertGreater(seen.count(False), 1000)


class ItsHouse(Refusing):
    def test_at_first(self):
        desk = Desk()
        self.assertIs(type(desk.house()), House)
        self.assertEqual(desk.house().world(), ((), (), ()))
        self.assertEqual(desk.take("counts"), "0 0")

    def test_it_is_the_house_itself(self):
        desk = Desk()
        house = desk.house()
        self.assertIs(desk.house(), house)
        desk.take("make o")
        self.assertIs(desk.house(), house)
        self.assertEqual(house.world(), ((("o", ()),), (), ()))
        house.make("a", ("o",))
        house.give("o", "n", ("plain", 3))
        self.assertEqual(desk.take("line a"), "a o")
        self.assertEqual(desk.take("found a n"), "o plain 3")
        self.assertEqual(house.walked(), 2)
        self.assertEqual(desk.take("counts"), "2 0")

    def test_new(self):
        desk = desk_with()
        desk.take("ask p n")
        house, kept = desk.house(), kept_by(desk.house())
        self.assertEqual(desk.take("new"), "done")
        self.assertIsNot(desk.house(), house)
        self.assertEqual(kept_by(house), kept)
        self.assertEqual(kept_by(desk.house()), kept_by(House()))
        self.assertEqual(desk.take("make o"), "done")
        self.assertEqual(desk.house().stamp("o"), 1)
        self.assertEqual(kept_by(house), kept)

    def test_desks_have_nothing_in_common(self):
        one, other = Desk(), Desk()
        one.take("make o")
        self.assertEqual(other.take("show"), "")
        other.take("new")
        self.assertEqual(one.take("show"), "kind o\n")


def row_of(word, handed):
    """The row of a deed."""
    words = ["let" if word == "let_go" else word]
    for at, part in enumerate(handed):
        if word == "give" and at == 2:
            words.append(entry_text(part))
        elif isinstance(part, tuple):
            words += part
        else:
            words.append(str(part))
    return " ".join(words)


class ByChance(Refusing):
    def answered(self, told):
        if told[0] != "told":
            return told[0].__name__
        return "done" if told[1] is None else str(told[1])

    def test_as_the_methods_of_a_house(self):
        chance = random.Random(92)
        seen = set()
        for turn in range(40):
            desk, house = Desk(), House()
            for number in range(60):
                word, *handed = deed_by_chance(chance, house.world())
                answer = desk.take(row_of(word, handed))
                self.assertEqual(answer, self.answered(outcome(getattr(house, word), *handed)))
                seen.add(answer)
                thing, kind, name = chance.choice("pqrs"), chance.choice("uvwxyz"), chance.choice("abcde")
                told = outcome(house.ask, thing, name)
                self.assertEqual(desk.take(f"ask {thing} {name}"), self.answered(told))
                told = outcome(house.ask, thing, name, kind)
                self.assertEqual(desk.take(f"ask {thing} {name} {kind}"), self.answered(told))
                seen.add(self.answered(told))
                told = outcome(house.found, kind, name)
                if told[0] == "told":
                    told = (None, "-" if told[1] is None else f"{told[1][0]} {entry_text(told[1][1])}")
                    self.assertEqual(desk.take(f"found {kind} {name}"), told[1])
                else:
                    self.assertEqual(desk.take(f"found {kind} {name}"), told[0].__name__)
                self.assertEqual(desk.take("counts"), f"{house.walked()} {house.reckoned()}")
                self.assertEqual(kept_by(desk.house()), kept_by(house))
                self.assertEqual(read_world(desk.take("show")), house.world())
        self.assertLess({"done", "NoKind", "Taken", "InUse", "NoThing", "NotAbove", "Shut", "Ring", "Round", "Missing",
                         "Endless", "NoName"}, seen)
