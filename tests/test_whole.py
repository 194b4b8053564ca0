"""The whole program by chance: deeds, askings, looks, askers and goers of one house, in any order."""

import random

from helper import (
    NAMES, AskerByTheWords, GoerByTheWords, HouseByTheWords, Twins, all_told, askings_of, by_the_words, deed_by_chance,
    outcome, told_plainly, world_by_chance)
from parentlines.askers import Asker
from parentlines.asking import number_asked
from parentlines.errors import LineError, NotAbove, NoThing
from parentlines.finds import all_found
from parentlines.goers import Goer
from parentlines.house import House, house_of
from parentlines.papers import is_paper, paper_of
from parentlines.worldtexts import read_world, world_text


def made_by_deeds(world):
    """A house to which this world is made by deeds."""
    house = House()
    left = dict(world[0])
    while left:
        for kind in [kind for kind in left if not set(left[kind]) & set(left)]:
            house.make(kind, left.pop(kind))
    # While no kind has a name, each number is put just where it is to stand.
    for thing, kind, own in world[2]:
        house.begin(thing, kind)
        for name, number in own:
            house.put(thing, name, number)
    for kind, name, entry in world[1]:
        house.give(kind, name, entry)
    return house


class OneHouse(Twins):
    def begin(self, house, model):
        self.both(house, model)
        self.askers, self.goers = [], []

    def new_asker(self, chance):
        name, many = chance.choice(NAMES), chance.randint(1, 4)
        self.askers.append((Asker(self.house, name, many), AskerByTheWords(self.model, name, many)))

    def new_goer(self, chance):
        things = [thing for thing, kind, own in self.model.world[2]]
        if things:
            thing, name = chance.choice(things), chance.choice(NAMES)
            self.goers.append((Goer(self.house, thing, name), GoerByTheWords(self.model, thing, name)))

    def ask_by_asker(self, chance):
        things = [thing for thing, kind, own in self.model.world[2]]
        if not self.askers or not things:
            return []
        asker, twin = chance.choice(self.askers)
        thing = chance.choice(things)
        misses = twin.misses
        told = outcome(asker.tells, thing)
        self.assertEqual(told, outcome(number_asked, self.model.world, thing, twin.name))
        self.assertEqual(by_the_words(told), twin.tells(thing))
        self.alike()
        return ["hit" if twin.misses == misses else "miss"]

    def go_with_goer(self, chance):
        if not self.goers:
            return []
        goer, twin = chance.choice(self.goers)
        if chance.random() < 0.15:
            goer.back()
            twin.place = ""
            return []
        told = twin.go()
        self.assertEqual(outcome(goer.go), told)
        self.alike()
        return [told[0] if told[0] != "told" else "none" if told[1] is None else "kind"]

    def look_about(self, chance):
        """Askings, looks, askers and goers by chance."""
        told = []
        for turn in range(chance.randint(0, 5)):
            sort = chance.randrange(10)
            things, kinds = self.model.world[2], self.model.world[0]
            if sort == 0:
                self.new_asker(chance)
            elif sort == 1:
                self.new_goer(chance)
            elif sort < 5:
                told += self.ask_by_asker(chance)
            elif sort < 7:
                told += self.go_with_goer(chance)
            elif sort < 9 and things:
                thing, kind, own = chance.choice(things)
                told.append(self.ask(thing, chance.choice(NAMES), chance.choice(("", "") + self.house.line(kind))))
            elif kinds:
                kind = chance.choice(kinds)[0]
                self.find(kind, chance.choice(NAMES), chance.choice(("", "") + self.house.line(kind)))
        for asker, twin in self.askers:
            self.assertEqual((asker.misses(), asker.pairs()), (twin.misses, sorted(twin.pairs)))
        for goer, twin in self.goers:
            self.assertEqual(goer.place(), twin.place)
        return told

    def test_in_any_order(self):
        chance = random.Random(101)
        seen = []
        for turn in range(80):
            world = world_by_chance(chance) if turn % 2 else ((), (), ())
            self.begin(house_of(world) if turn % 2 else House(), HouseByTheWords(world))
            for number in range(50):
                word, *handed = deed_by_chance(chance, self.model.world)
                self.do(word, *handed)
                seen += self.look_about(chance)
        for told in ("hit", "miss", "kind", "none", NotAbove, NoThing, "number", "missing", "endless"):
            self.assertGreater(seen.count(told), 20, told)

    def test_what_is_told_is_what_would_be_told_if_nothing_were_kept(self):
        chance = random.Random(102)
        for turn in range(25):
            self.begin(House(), HouseByTheWords())
            for number in range(40):
                word, *handed = deed_by_chance(chance, self.model.world)
                self.do(word, *handed)
                self.look_about(chance)
                if number % 8 == 7:
                    world = self.house.world()
                    told = told_plainly(world)
                    self.assertEqual(all_told(house_of(world)), told)
                    self.assertEqual(all_told(made_by_deeds(world)), told)
                    self.assertEqual(all_told(house_of(read_world(world_text(world)))), told)
                    self.assertEqual(made_by_deeds(world).world(), world)
            self.assertEqual(all_told(self.house), told_plainly(self.house.world()))

    def test_a_goer_comes_by_each_kind_that_has_the_name_in_the_line_s_order(self):
        chance = random.Random(103)
        for turn in range(60):
            house = house_of(world_by_chance(chance))
            has = {triple[:2] for triple in house.world()[1]}
            for thing, kind, own in house.world()[2]:
                for name in NAMES:
                    goer = Goer(house, thing, name)
                    told = [goer.go() for again in range(8)]
                    kinds = [other for other in house.line(kind) if (other, name) in has]
                    self.assertEqual(told, kinds + [None] * (8 - len(kinds)))

    def test_papers_tell_what_the_house_tells(self):
        chance = random.Random(104)
        for turn in range(60):
            house = house_of(world_by_chance(chance))
            for asking in askings_of(house.world()):
                told = outcome(house.ask, *asking)
                paper = outcome(paper_of, house.world(), *asking)
                self.assertEqual(told[0], paper[0])
                if told[0] == "told":
                    self.assertEqual(paper[1][-1][3], told[1])
                    self.assertIs(is_paper(house.world(), asking[0], paper[1]), True)

    def test_all_found_is_what_a_house_finds(self):
        chance = random.Random(105)
        for turn in range(40):
            house = house_of(world_by_chance(chance))
            for kind, parents in house.world()[0]:
                told = [(name, house.found(kind, name)) for name in NAMES]
                self.assertEqual(all_found(house.world()[0], house.world()[1], kind),
                                 [(name, found[0]) for name, found in told if found is not None])


class ChangedAndChangedBack(Twins):
    def check(self, house, deed, back):
        """A deed, if it is not refused, with askings behind it, and what takes it back."""
        world, told = house.world(), told_plainly(house.world())
        try:
            deed()
        except LineError:
            self.assertEqual(house.world(), world)
            self.assertEqual(all_told(house), told)
            return 0
        self.assertEqual(all_told(house), told_plainly(house.world()))
        back()
        self.assertEqual(house.world(), world)
        self.assertEqual(all_told(house), told)
        return 1

    def test_by_chance(self):
        chance = random.Random(106)
        done = {}
        for turn in range(25):
            house = house_of(world_by_chance(chance))
            all_told(house)
            family, book, things = house.world()
            kinds = [kind for kind, parents in family]
            entries = {triple[:2]: triple[2] for triple in book}
            for number in range(10):
                kind, name = chance.choice(kinds), chance.choice(NAMES)
                thing, of_kind, own = chance.choice(things)
                parents = tuple(chance.sample(kinds, min(len(kinds), chance.randint(0, 2))))
                entry = ("behind", (("ask", chance.choice(NAMES)), ("onward",), ("add", 3)))
                had = entries.get((kind, name))
                for word, deed, back in (
                        ("change", lambda: house.change(kind, parents), lambda: house.change(kind, dict(family)[kind])),
                        ("give", lambda: house.give(kind, name, entry),
                         lambda: house.give(kind, name, had) if had else house.take(kind, name)),
                        ("take", lambda: house.take(kind, name), lambda: house.give(kind, name, had)),
                        ("turn", lambda: house.turn(thing, kind), lambda: house.turn(thing, of_kind)),
                        ("make", lambda: house.make("zz", parents), lambda: house.let_go("zz")),
                        ("begin", lambda: house.begin("zz", kind), lambda: house.end("zz"))):
                    done[word] = done.get(word, 0) + self.check(house, deed, back)
        self.assertTrue(all(done[word] > 20 for word in done), done)

    def test_put_and_taken_back(self):
        chance = random.Random(107)
        many = 0
        for turn in range(40):
            house = house_of(world_by_chance(chance))
            told = all_told(house)
            for thing, kind, own in house.world()[2]:
                for name in NAMES:
                    number = told[(thing, name, "")]
                    try:
                        house.put(thing, name, 1234)
                    except LineError:
                        continue
                    self.assertEqual(house.ask(thing, name), 1234)
                    if number[0] == "told":
                        house.put(thing, name, number[1])
                        many += 1
                        for asking in askings_of(house.world()):
                            self.assertEqual(outcome(house.ask, *asking), told[asking])
                    else:
                        house.drop(thing, name)
        self.assertGreater(many, 50)
