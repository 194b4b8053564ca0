import itertools
import random

from helper import ByTheWords, Refusing, anything, askings_of, book_of, chain_world, places, with_lists, world_by_chance
from parentlines.asking import number_asked
from parentlines.errors import Endless, LineError, Missing, NoName, NotAbove, NoThing
from parentlines.papers import is_paper, paper_of

FAMILY = (("b", ("o",)), ("c", ("o",)), ("d", ("b", "c")), ("o", ()), ("x", ()))
ONWARD = ("onward",)


def world_of(entries, own=(), kind="d"):
    """A world with one thing, t; the line of its kind is d, b, c, o, if no other kind is told."""
    return (FAMILY, book_of(entries), (("t", kind, tuple(sorted(dict(own).items()))),))


# n, at d, comes to m, k and n behind d; n behind d, at o, comes to k and to nothing behind o; m is an own number.
ENTRIES = {
    "dn": ("behind", (("ask", "m"), ("ask", "k"), ONWARD, ("times", 2))),
    "on": ("shut", (("ask", "k"), ONWARD, ("add", 1))),
    "ck": ("ahead", "m", 4), "bm": ("plain", 9), "oz": ("plain", 1)}
WORLD = world_of(ENTRIES, {"m": 3})
M, K = ("m", "", "", 3), ("k", "", "c", 7)
BEHIND, N = ("n", "d", "o", 8), ("n", "", "d", 36)
PAPER = [M, K, BEHIND, N]


class PaperOf(Refusing):
    def check(self, rows, world, name, behind="", thing="t"):
        """The last row stands; those ahead of it in some order that fits."""
        paper = paper_of(world, thing, name, behind)
        self.assertIs(type(paper), list)
        self.assertTrue(all(type(row) is tuple for row in paper))
        self.assertEqual(sorted(paper), sorted(rows))
        self.assertEqual(paper[-1], rows[-1])
        self.assertEqual(paper[-1][3], number_asked(world, thing, name, behind))
        self.assertTrue(ByTheWords(world, thing).is_paper(paper))
        self.assertIs(is_paper(world, thing, paper), True)

    def test_an_own_number(self):
        self.check([("m", "", "", 3)], WORLD, "m")
        self.check([("m", "", "", 0)], world_of({"dm": ("behind", (("ask", "n"),))}, {"m": 0}), "m")

    def test_plain(self):
        self.check([("z", "", "o", 1)], WORLD, "z")
        self.check([("m", "d", "b", 9)], WORLD, "m", "d")

    def test_without_steps(self):
        self.check([("n", "", "d", 0)], world_of({"dn": ("behind", ())}), "n")
        self.check([("n", "", "d", 0)], world_of({"dn": ("shut", ())}, {"n": 5}), "n")

    def test_askings_on_the_way(self):
        self.check(PAPER, WORLD, "n")
        self.check([M, K], WORLD, "k")
        self.check([M, K, BEHIND], WORLD, "n", "d")
        self.check([M, K, ("n", "b", "o", 8)], WORLD, "n", "b")
        self.check([M, K, ("n", "c", "o", 8)], WORLD, "n", "c")

    def test_an_onward_step_that_finds_nothing_has_no_row(self):
        self.check([("n", "", "o", 2)], world_of({"on": ("behind", (ONWARD, ("add", 2), ONWARD))}), "n")
        self.check([("n", "", "d", 0)], world_of({"dn": ("shut", (ONWARD,))}, {"n": 4}), "n")

    def test_an_asking_behind_is_another_one_than_that_behind_none(self):
        world = world_of({"dn": ("plain", 2), "on": ("behind", (("ask", "n"), ("add", 1)))}, {})
        self.check([("n", "", "d", 2), ("n", "d", "o", 3)], world, "n", "d")
        # The same entry, come to behind several kinds, is a row for each.
        world = world_of({"bn": ("behind", (ONWARD,)), "dn": ("behind", (ONWARD,)), "on": ("plain", 5)})
        self.check([("n", "b", "o", 5), ("n", "d", "b", 5), ("n", "", "d", 5)], world, "n")

    def test_each_asking_once_however_often_it_is_come_to(self):
        entries = {"dn": ("behind", (("ask", "m"), ("ask", "m"), ("ask", "k"), ("ask", "m"))), "dm": ("ahead", "k", 1)}
        self.check([("k", "", "", 5), ("m", "", "d", 6), ("n", "", "d", 23)], world_of(entries, {"k": 5}), "n")

    def test_also_where_0_comes_of_it(self):
        world = world_of({"dn": ("behind", (("ask", "m"), ("times", 0))), "om": ("plain", 4)})
        self.check([("m", "", "o", 4), ("n", "", "d", 0)], world, "n")

    def test_left_out_it_is_none(self):
        self.assertEqual(paper_of(WORLD, "t", "n"), paper_of(WORLD, "t", "n", ""))

    def test_lists_are_the_asker_s_own(self):
        told = paper_of(WORLD, "t", "n")
        kept = list(told)
        told.clear()
        self.assertEqual(paper_of(WORLD, "t", "n"), kept)

    def test_nearly_fifty_askings_within_one_another(self):
        world = chain_world([ONWARD, ("add", 1)], ["ask"], ("plain", 5))
        paper = paper_of(world, "t", "na")
        self.assertEqual(len(paper), 48)
        self.assertEqual(paper[-1], ("na", "", "a", 5 + 6 * 7))
        self.assertTrue(ByTheWords(world, "t").is_paper(paper))
        self.assertIs(is_paper(world, "t", paper), True)
        self.assertIs(is_paper(world, "t", paper[1:]), False)
        self.assertIs(is_paper(world, "t", paper[::-1]), False)

    def test_again_and_again_comes_home_at_once(self):
        world = chain_world([ONWARD] * 4, ["ask"] * 4, ("plain", 1))
        paper = paper_of(world, "t", "na")
        self.assertEqual((len(paper), paper[-1]), (48, ("na", "", "a", 4 ** 47)))
        self.assertIs(is_paper(world, "t", paper), True)


class PaperRefused(Refusing):
    def test_no_thing_no_name_not_above(self):
        for thing in anything() + ["s", "d", "n"]:
            self.refused(NoThing, paper_of, WORLD, thing, "n")
            self.refused(NoThing, paper_of, WORLD, thing, thing, thing)
        for name in anything() + ["N"]:
            self.refused(NoName, paper_of, WORLD, "t", name)
            self.refused(NoName, paper_of, WORLD, "t", name, name)
        for behind in [thing for thing in anything() if type(thing) is not str] + [" ", "x", "z", "t", "n", ("d",)]:
            self.refused(NotAbove, paper_of, WORLD, "t", "n", behind)
            self.refused(NotAbove, paper_of, WORLD, "t", "q", behind)

    def test_missing(self):
        self.assertEqual(self.refused(Missing, paper_of, WORLD, "t", "q").name, "q")
        self.assertEqual(self.refused(Missing, paper_of, WORLD, "t", "m", "b").name, "m")
        world = world_of({"dn": ("behind", (("ask", "q"), ("ask", "n"), ("times", 0)))})
        self.assertEqual(self.refused(Missing, paper_of, world, "t", "n").name, "q")

    def test_endless(self):
        world = world_of({"dn": ("ahead", "m", 1), "om": ("shut", (("ask", "k"),)), "bk": ("behind", (("ask", "n"),))})
        for name in "nmk":
            names = self.refused(Endless, paper_of, world, "t", name).names
            self.assertTrue(ByTheWords(world, "t").is_round(names))


class IsPaper(Refusing):
    def check(self, told, rows, world=WORLD):
        self.assertIs(is_paper(world, "t", rows), told, rows)

    def test_papers(self):
        self.check(True, PAPER)
        self.check(True, [])
        self.check(True, [M])
        self.check(True, [M, K])
        self.check(True, [("z", "", "o", 1)])
        self.check(True, [("z", "b", "o", 1)])

    def test_other_orders_in_which_what_is_come_to_stands_ahead(self):
        for order in itertools.permutations(PAPER):
            self.check(list(order) == PAPER, list(order))
        for order in itertools.permutations(PAPER + [("z", "", "o", 1)]):
            self.check([row for row in order if row[0] != "z"] == PAPER, list(order))

    def test_several_askings_together(self):
        self.check(True, [("z", "c", "o", 1), M, ("z", "d", "o", 1), K, ("n", "b", "o", 8), BEHIND, ("m", "d", "b", 9), N])

    def test_a_row_twice(self):
        for row in PAPER:
            self.check(False, PAPER + [row])
            self.check(False, PAPER[:PAPER.index(row)] + [row] + PAPER[PAPER.index(row):])
        self.check(False, [M, ("m", "", "b", 9)])
        self.check(False, [M, ("m", "", "", 4)])

    def test_a_row_left_out(self):
        for at in range(3):
            self.check(False, PAPER[:at] + PAPER[at + 1:])

    def test_another_number(self):
        for at, row in enumerate(PAPER):
            for number in (row[3] + 1, -row[3], 0):
                self.check(False, PAPER[:at] + [row[:3] + (number,)] + PAPER[at + 1:])
        # Each row has to be right by itself, not only by a number ahead that is wrong.
        self.check(False, [("m", "", "", 4), ("k", "", "c", 8)])

    def test_another_where(self):
        for at, row in enumerate(PAPER):
            for where in ("", "b", "c", "d", "o", "x", "z", "t", "n"):
                if where != row[2]:
                    self.check(False, PAPER[:at] + [row[:2] + (where,) + row[3:]] + PAPER[at + 1:])

    def test_another_behind(self):
        for behind in ("b", "c", "d", "o", "x", "z"):
            self.check(False, [("m", behind, "", 3)])
        self.check(False, [M, K, ("n", "", "o", 8)])
        self.check(False, [M, K, ("n", "o", "o", 8)])
        self.check(False, [M, K, ("n", "x", "o", 8)])
        self.check(False, [M, K, ("n", "z", "o", 8)])
        # n behind d has to stand ahead of n: that behind b is another asking.
        self.check(False, [M, K, ("n", "b", "o", 8), N])

    def test_an_entry_where_an_own_number_is_told_and_the_other_way_round(self):
        self.check(False, [("m", "", "b", 9)])
        self.check(False, [("m", "", "b", 3)])
        self.check(False, [("m", "", "", 9)])
        world = world_of({"dn": ("shut", (("add", 5),))}, {"n": 7})
        self.check(True, [("n", "", "d", 5)], world)
        self.check(False, [("n", "", "", 7)], world)
        self.check(False, [("n", "", "", 5)], world)

    def test_askings_that_are_refused_have_no_row(self):
        self.check(False, [("q", "", "", 0)])
        self.check(False, [("q", "d", "", 0)])
        self.check(False, [("z", "o", "", 0)])
        world = world_of({"dn": ("behind", (("ask", "n"),)), "dk": ("ahead", "q", 0), "dj": ("ahead", "n", 0)})
        for row in (("n", "", "d", 0), ("k", "", "d", 0), ("q", "", "", 0), ("q", "", "d", 0), ("j", "", "d", 0)):
            self.check(False, [row], world)
        self.check(False, [("n", "", "d", 0), ("n", "", "d", 0)], world)

    def test_an_onward_step_that_finds_nothing_has_no_row(self):
        world = world_of({"dn": ("behind", (ONWARD,))})
        self.check(True, [("n", "", "d", 0)], world)
        for where in ("", "d", "b"):
            self.check(False, [("n", "d", where, 0)], world)
            self.check(False, [("n", "d", where, 0), ("n", "", "d", 0)], world)

    def test_the_kind_s_line_is_that_of_the_thing(self):
        world = world_of({"cn": ("plain", 2), "on": ("plain", 1)}, kind="b")
        self.check(True, [("n", "", "o", 1), ("n", "b", "o", 1)], world)
        self.check(False, [("n", "", "c", 2)], world)
        self.check(False, [("n", "c", "o", 1)], world)
        self.check(False, [("n", "d", "o", 1)], world)

    def test_lists_and_tuples(self):
        self.check(False, tuple(PAPER))
        self.check(False, ())
        for at, row in enumerate(PAPER):
            self.check(False, PAPER[:at] + [list(row)] + PAPER[at + 1:])
            self.check(False, PAPER[:at] + [(row,)] + PAPER[at + 1:])
            self.check(False, PAPER[:at] + [row[:3]] + PAPER[at + 1:])
            self.check(False, PAPER[:at] + [row + (0,)] + PAPER[at + 1:])
        for rows in with_lists(tuple(PAPER))[1:]:
            self.check(False, list(rows))

    def test_true_and_false_are_no_numbers(self):
        self.check(False, [("z", "", "o", True)])
        world = world_of({"dn": ("behind", ()), "dm": ("ahead", "k", 1)}, {"k": 0})
        self.check(True, [("n", "", "d", 0), ("k", "", "", 0), ("m", "", "d", 1)], world)
        self.check(False, [("n", "", "d", False)], world)
        self.check(False, [("k", "", "", False)], world)
        self.check(False, [("k", "", "", 0), ("m", "", "d", True)], world)

    def test_anything(self):
        for thing in anything():
            if type(thing) is not list or thing:
                self.check(False, thing)
            self.check(False, [thing])
            self.check(False, [M, thing])
            self.check(False, [thing, M])
            for rows in places((M, K), thing):
                right = type(thing) in (int, str) and rows == (M, K)
                self.check(right, list(rows))

    def test_no_thing(self):
        for thing in anything() + ["s", "d", "n"]:
            self.refused(NoThing, is_paper, WORLD, thing, PAPER)
            self.refused(NoThing, is_paper, WORLD, thing, thing)

    def test_rows_that_are_handed_in_stay(self):
        rows = list(PAPER)
        self.check(True, rows)
        self.assertEqual(rows, PAPER)


class ByChance(Refusing):
    def fitting_order(self, chance, words, rows):
        """The rows in another order in which what each comes to stands ahead."""
        left, order = list(rows), []
        while left:
            ahead = {row[:2]: row[3] for row in order}
            row = chance.choice([row for row in left if words.is_right(row, ahead)])
            left.remove(row)
            order.append(row)
        return order

    def spoilt(self, chance, rows, world):
        rows = list(rows)
        at = chance.randrange(len(rows))
        sort = chance.randrange(7)
        if sort == 0:
            del rows[at]
        elif sort == 1:
            rows.insert(at, chance.choice(rows))
        elif sort == 2:
            chance.shuffle(rows)
        else:
            row = list(rows[at])
            row[sort - 3] = chance.choice((
                list("abcde"), ["", "u", "v", "w", "x"], ["", "u", "v", "w", "x"], [0, 1, -1, row[3] + 1])[sort - 3])
            rows[at] = tuple(row)
        return rows

    def test_papers_of_worlds(self):
        chance = random.Random(61)
        seen = []
        for turn in range(150):
            world = world_by_chance(chance)
            kept = repr(world)
            for thing, name, behind in askings_of(world):
                words = ByTheWords(world, thing)
                told = words.tells(name, behind)
                seen.append(told[0])
                if told[0] == "missing":
                    self.assertEqual(self.refused(Missing, paper_of, world, thing, name, behind).name, told[1])
                elif told[0] == "endless":
                    self.assertTrue(words.is_round(self.refused(Endless, paper_of, world, thing, name, behind).names))
                else:
                    paper = paper_of(world, thing, name, behind)
                    self.assertEqual(sorted(row[:2] for row in paper), sorted(words.askings_within(name, behind)))
                    self.assertEqual((paper[-1][:2], paper[-1][3]), ((name, behind), told[1]))
                    self.assertTrue(words.is_paper(paper))
                    self.assertIs(is_paper(world, thing, paper), True)
                    self.assertIs(is_paper(world, thing, self.fitting_order(chance, words, paper)), True)
                    for again in range(3):
                        rows = self.spoilt(chance, paper, world)
                        if all(row[1] in ("",) + words.line for row in rows):
                            self.assertIs(is_paper(world, thing, rows), words.is_paper(rows), rows)
                            seen.append(words.is_paper(rows))
                        else:
                            self.assertIs(is_paper(world, thing, rows), False)
            self.assertEqual(repr(world), kept)
        for told in ("number", "missing", "endless", True, False):
            self.assertGreater(seen.count(told), 50, told)

    def test_papers_of_a_whole_thing(self):
        """All that a thing tells, each asking's rows behind one another but those that are there, is one paper."""
        chance = random.Random(62)
        many = []
        for turn in range(60):
            world = world_by_chance(chance)
            rows = {thing: [] for thing, kind, own in world[2]}
            for thing, name, behind in askings_of(world):
                try:
                    paper = paper_of(world, thing, name, behind)
                except LineError:
                    continue
                rows[thing] += [row for row in paper if row not in rows[thing]]
            for thing in rows:
                self.assertIs(is_paper(world, thing, rows[thing]), True)
                many.append(len(rows[thing]))
        self.assertGreater(max(many), 8)
