import random
import re

from helper import Refusing, anything, entry_text, world_by_chance
from parentlines.errors import NoText
from parentlines.worlds import is_world
from parentlines.worldtexts import read_world, world_text

WORLD = (
    (("b", ("o",)), ("c", ("o",)), ("d", ("b", "c")), ("o", ())),
    (("b", "add", ("shut", ())),
     ("b", "n", ("behind", (("add", -5), ("times", -9), ("ask", "add"), ("onward",)))),
     ("d", "m", ("ahead", "n", -12)),
     ("d", "n", ("behind", (("onward",), ("onward",), ("ask", "onward"), ("times", 0)))),
     ("o", "k", ("plain", 0)), ("o", "n", ("plain", -7)), ("o", "onward", ("plain", 10 ** 18 - 1)),
     ("o", "z", ("behind", ()))),
    (("kind", "d", (("m", -3), ("n", 10), ("zz", 0))), ("thing", "o", ())))
TEXT = """kind b o
kind c o
kind d b c
kind o
name b add shut
name b n behind add -5 times -9 ask add onward
name d m ahead n -12
name d n behind onward onward ask onward times 0
name o k plain 0
name o n plain -7
name o onward plain 999999999999999999
name o z behind
thing kind d m -3 n 10 zz 0
thing thing o
"""

NAME, NUMBER = "[a-z]{1,8}", "(?:0|-?[1-9][0-9]*)"
STEP = f"add {NUMBER}|times {NUMBER}|ask {NAME}|onward"
ENTRY = f"plain {NUMBER}|ahead {NAME} {NUMBER}|(?:behind|shut)(?: (?:{STEP}))*"


def text_by_the_words(world):
    """Point 27."""
    text = ""
    for kind, parents in world[0]:
        text += f"kind {kind}" + "".join(f" {parent}" for parent in parents) + "\n"
    for kind, name, entry in world[1]:
        text += f"name {kind} {name} {entry_text(entry)}\n"
    for thing, kind, own in world[2]:
        text += f"thing {thing} {kind}" + "".join(f" {name} {number}" for name, number in own) + "\n"
    return text


def entry_by_the_words(text):
    """The entry of a text that has an entry's form."""
    words = text.split(" ")
    if words[0] == "plain":
        return ("plain", int(words[1]))
    if words[0] == "ahead":
        return ("ahead", words[1], int(words[2]))
    steps = [step.split(" ") for step in re.findall(STEP, text[len(words[0]):])]
    return (words[0], tuple((step[0], int(step[1])) if step[0] in ("add", "times") else tuple(step) for step in steps))


def world_by_the_words(text):
    """The world of a text, or None where it is not the text of one."""
    form = f"(?:kind {NAME}(?: {NAME})*\n)*(?:name {NAME} {NAME} (?:{ENTRY})\n)*(?:thing {NAME} {NAME}(?: {NAME} {NUMBER})*\n)*"
    if not re.fullmatch(form, text):
        return None
    family, book, things = [], [], []
    for line in text.split("\n")[:-1]:
        words = line.split(" ")
        if words[0] == "kind":
            family.append((words[1], tuple(words[2:])))
        elif words[0] == "name":
            book.append((words[1], words[2], entry_by_the_words(line.split(" ", 3)[3])))
        else:
            own = [(words[at], int(words[at + 1])) for at in range(3, len(words), 2)]
            things.append((words[1], words[2], tuple(own)))
    world = (tuple(family), tuple(book), tuple(things))
    return world if is_world(world) else None


class WorldText(Refusing):
    def test_the_whole(self):
        self.assertEqual(world_text(WORLD), TEXT)
        self.assertEqual(text_by_the_words(WORLD), TEXT)
        self.assertIs(type(world_text(WORLD)), str)

    def test_nothing(self):
        self.assertEqual(world_text(((), (), ())), "")

    def test_parts(self):
        self.assertEqual(world_text(((("o", ()),), (), ())), "kind o\n")
        self.assertEqual(world_text(((("o", ()),), (("o", "n", ("shut", (("onward",),))),), ())),
                         "kind o\nname o n shut onward\n")
        self.assertEqual(world_text(((("o", ()),), (), (("t", "o", (("a", -1),)),))), "kind o\nthing t o a -1\n")

    def test_each_entry_and_each_step(self):
        for entry, words in (
                (("plain", 5), "plain 5"), (("plain", -5), "plain -5"), (("ahead", "m", 0), "ahead m 0"),
                (("behind", ()), "behind"), (("shut", ()), "shut"), (("behind", (("add", 5),)), "behind add 5"),
                (("shut", (("times", -9),)), "shut times -9"), (("behind", (("ask", "times"),)), "behind ask times"),
                (("shut", (("onward",),)), "shut onward"),
                (("behind", (("ask", "ask"), ("onward",), ("add", -1), ("ask", "onward"))),
                 "behind ask ask onward add -1 ask onward")):
            world = ((("o", ()),), (("o", "n", entry),), ())
            self.assertEqual(world_text(world), f"kind o\nname o n {words}\n")
            self.assertEqual(read_world(f"kind o\nname o n {words}\n"), world)


class ReadWorld(Refusing):
    def check(self, text):
        self.refused(NoText, read_world, text)

    def test_worlds(self):
        self.assertEqual(read_world(TEXT), WORLD)
        self.assertEqual(read_world(""), ((), (), ()))
        self.assertTrue(is_world(read_world(TEXT)))

    def test_numbers_of_many_figures(self):
        world = ((("o", ()),), (("o", "n", ("plain", -10 ** 40)),), (("t", "o", (("n", 10 ** 250),)),))
        self.assertEqual(read_world(world_text(world)), world)

    def test_no_text(self):
        for thing in anything() + [TEXT.encode(), [TEXT], (TEXT,), TEXT.split("\n"), WORLD]:
            if type(thing) is not str or thing:
                self.check(thing)

    def test_blanks(self):
        for at in [at for at, sign in enumerate(TEXT) if sign in " \n"] + [0]:
            self.check(TEXT[:at] + " " + TEXT[at:])
            self.check(TEXT[:at] + TEXT[at + 1:])
        self.check(" ")
        self.check(TEXT + " ")

    def test_line_feeds(self):
        for at in [at for at, sign in enumerate(TEXT) if sign == "\n"]:
            self.check(TEXT[:at] + TEXT[at + 1:])
            self.check(TEXT[:at] + "\n" + TEXT[at:])
            for other in ("\r\n", "\r", "\t", "\x0b", "\x0c", "\u2028", " ", ";"):
                self.check(TEXT[:at] + other + TEXT[at + 1:])
        self.check("\n")
        self.check("\n" + TEXT)
        self.check("kind o")

    def test_lines_left_out(self):
        lines = TEXT.splitlines(True)
        for at in range(4):
            self.check("".join(lines[:at] + lines[at + 1:]))
        # Without a name or a thing it is the text of another world.
        for at in range(4, len(lines)):
            text = "".join(lines[:at] + lines[at + 1:])
            self.assertEqual(world_text(read_world(text)), text)

    def test_lines_exchanged_and_told_twice(self):
        lines = TEXT.splitlines(True)
        for at in range(len(lines)):
            for other in range(at + 1, len(lines)):
                text = list(lines)
                text[at], text[other] = text[other], text[at]
                self.check("".join(text))
            self.check("".join(lines[:at] + [lines[at]] + lines[at:]))
            self.check("".join(lines + [lines[at]]))

    def test_lines_put_in(self):
        lines = TEXT.splitlines(True)
        for line in ("\n", " \n", "kind\n", "name\n", "thing\n", "kind \n", "a\n", "Kind a\n", "kinds a\n", "kind 1\n",
                     "name o\n", "name o q\n", "name o q plain\n", "thing t\n", "thing t o n\n", "thing t o 5 n\n",
                     "thing t o n n\n", "# a\n", "kind z z\n", "kind z q\n", "name q n plain 1\n", "thing t q\n"):
            for at in range(len(lines) + 1):
                self.check("".join(lines[:at] + [line] + lines[at:]))

    def test_words_of_entries(self):
        for words in ("plain", "plain 1 2", "plain n", "plain 1 add 1", "ahead", "ahead m", "ahead 1", "ahead m 1 1", "ahead 1 m",
                      "ahead M 1", "behind add", "behind add m", "behind 1", "behind times 10", "behind times -10", "behind ask",
                      "behind ask 1", "behind ask onward 1", "behind onward 1", "behind onward onward onward onward onward",
                      "behind add 1 add 1 add 1 add 1 add 1", "shut add 1 add", "shut plain 1", "plaid 1", "Plain 1", "onward",
                      "add 1", "times 2", "ask m", "", "behind ", "behind  add 1", "shut ask Ask", "behind ask abcdefghi"):
            self.check(f"kind o\nname o n {words}\n")

    def test_numbers_written_otherwise(self):
        for number in ("+1", "01", "-01", "-0", "+0", "00", "1.0", "1e3", "0x1", "1_0", "\u0661", "\uff11", "--1", "-", "", "- 1",
                       "1-", "one", "\t1", "1\t", "\x0b1"):
            self.check(f"kind o\nname o n plain {number}\n")
            self.check(f"kind o\nname o n ahead m {number}\n")
            self.check(f"kind o\nname o n behind add {number}\n")
            self.check(f"kind o\nname o n shut times {number}\n")
            self.check(f"kind o\nthing t o n {number}\n")
        for number in ("0", "-1", "9", "-9"):
            for text in (f"kind o\nname o n plain {number}\n", f"kind o\nname o n ahead m {number}\n",
                         f"kind o\nname o n behind add {number}\n", f"kind o\nname o n shut times {number}\n",
                         f"kind o\nthing t o n {number}\n"):
                self.assertEqual(world_text(read_world(text)), text)

    def test_numbers_too_long_to_read(self):
        self.check("kind o\nthing t o n 0" + "1" * 6000 + "\n")

    def test_written_right_but_no_world(self):
        for text in (
                "kind a a\n", "kind a b\nkind b a\n", "kind a b b\nkind b\n", "kind a o b\nkind b o\nkind o\n", "kind a b\n",
                "kind a b c d e f\nkind b\nkind c\nkind d\nkind e\nkind f\n", "kind b\nkind a\n", "kind a\nkind a\n", "kind A\n",
                "kind abcdefghi\n", "kind a\nname b n plain 1\n", "kind a\nname a N plain 1\n", "name a n plain 1\n",
                "kind a\nname a n plain 1\nname a n plain 1\n", "kind a\nname a n plain 1\nname a n plain 2\n",
                "kind a\nname a n plain 1\nname a m plain 1\n", "kind a\nthing t b\n", "kind a\nthing T a\n", "thing t a\n",
                "kind a\nthing t a\nthing t a\n", "kind a\nthing t a\nthing s a\n", "kind a\nthing t a n 1 m 1\n",
                "kind a\nthing t a n 1 n 1\n", "kind a\nthing t a N 1\n", "kind a\nthing t a\nname a n plain 1\n",
                "thing t a\nkind a\n", "kind a\nthing t a n 1\nname a n plain 1\n"):
            self.check(text)

    def test_rings_beneath(self):
        self.assertTrue(read_world("kind a b c\nkind b\nkind c\n"))
        self.check("kind a b c\nkind b c\nkind c\nkind d c b\n")
        self.check("kind a b c\nkind b\nkind c\nkind d c b\nkind e a d\n")


class ByChance(Refusing):
    def test_there_and_back(self):
        chance = random.Random(81)
        for turn in range(300):
            world = world_by_chance(chance)
            text = world_text(world)
            self.assertEqual(text, text_by_the_words(world))
            self.assertEqual(world_by_the_words(text), world)
            self.assertEqual(read_world(text), world)

    def spoilt(self, chance, text):
        """The text with a sign, a word or a line put in, left out, exchanged or told twice."""
        parts = chance.choice((list(text), re.findall(r"\S+|\s", text), text.splitlines(True)))
        sort = chance.randrange(4)
        at, other = chance.randrange(len(parts)), chance.randrange(len(parts))
        if sort == 0:
            del parts[at]
        elif sort == 1:
            parts[at], parts[other] = parts[other], parts[at]
        elif sort == 2:
            parts.insert(at, parts[other])
        else:
            parts[at] = chance.choice((" ", "\n", "-", "0", "1", "9", "10", "a", "u", "onward", "add", "plain", "kind v\n", "~"))
        return "".join(parts)

    def test_spoilt(self):
        chance = random.Random(82)
        seen = []
        for turn in range(4000):
            text = world_text(world_by_chance(chance)) if turn % 20 == 0 or not text else text
            spoilt = self.spoilt(chance, text) if text else text
            world = world_by_the_words(spoilt)
            seen.append(world is None)
            if world is None:
                self.check_refused(spoilt)
            else:
                self.assertEqual(read_world(spoilt), world, spoilt)
        self.assertGreater(seen.count(True), 1000)
        self.assertGreater(seen.count(False), 300)

    def check_refused(self, text):
        self.refused(NoText, read_world, text)
