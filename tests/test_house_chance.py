"""Deeds and askings by chance, held against the document's words, a house that keeps nothing and the plain functions."""

import random

from helper import (
    NAMES, HouseByTheWords, Twins, all_told, deed_by_chance, kept_by, outcome, told_plainly, world_by_chance)
from parentlines.house import House, house_of


class ByChance(Twins):
    def look_about(self, chance):
        """Askings and looks by chance."""
        kinds = [kind for kind, parents in self.model.world[0]]
        things = [thing for thing, kind, own in self.model.world[2]]
        told = []
        for turn in range(chance.randint(0, 4)):
            if things and chance.random() < 0.7:
                thing = chance.choice(things)
                behind = chance.choice(("", "", "") + self.house.line(self.model.kind_of(thing)))
                told.append(self.ask(thing, chance.choice(NAMES), behind))
            elif kinds:
                kind = chance.choice(kinds)
                self.find(kind, chance.choice(NAMES), chance.choice(("", "") + self.house.line(kind)))
        return told

    def run_house(self, chance, deeds, seen):
        for turn in range(deeds):
            word, *handed = deed_by_chance(chance, self.model.world)
            refused = self.do(word, *handed)
            seen.append((word, refused is None))
            seen += self.look_about(chance)
            seen += ["kept"] * len([row for thing, kind, own in self.model.world[2]
                                    for row in self.house.kept_numbers(thing)])

    def test_from_nothing(self):
        chance = random.Random(71)
        seen = []
        for turn in range(100):
            self.both(House(), HouseByTheWords())
            self.run_house(chance, 70, seen)
        for word in ("make", "change", "let_go", "give", "take", "begin", "end", "turn", "put", "drop"):
            self.assertGreater(seen.count((word, True)), 30, word)
            self.assertGreater(seen.count((word, False)), 10, word)
        for told in ("number", "missing", "endless", "kept"):
            self.assertGreater(seen.count(told), 100, told)

    def test_from_a_world(self):
        chance = random.Random(72)
        seen = []
        for turn in range(60):
            world = world_by_chance(chance)
            self.both(house_of(world), HouseByTheWords(world))
            self.run_house(chance, 25, seen)
        self.assertGreater(seen.count("kept"), 1000)


class KeepsNothingOrMuch(Twins):
    """Three houses to which the same deeds are done: one asked all and often, one now and then, one never."""

    def test_whatever_was_asked_ahead(self):
        chance = random.Random(73)
        for turn in range(12):
            busy, lazy, silent = House(), House(), House()
            for number in range(60):
                word, *handed = deed_by_chance(chance, busy.world())
                told = [outcome(getattr(house, word), *handed) for house in (busy, lazy, silent)]
                self.assertEqual(told, [told[0]] * 3)
                self.assertEqual([house.world() for house in (lazy, silent)], [busy.world()] * 2)
                plainly = told_plainly(busy.world())
                self.assertEqual(all_told(busy), plainly)
                self.assertEqual(all_told(house_of(busy.world())), plainly)
                if chance.random() < 0.2:
                    self.assertEqual(all_told(lazy), plainly)
            self.assertEqual(all_told(silent), told_plainly(busy.world()))
            self.assertEqual([house.stamp(kind) for kind, parents in busy.world()[0] for house in (busy, lazy)],
                             [silent.stamp(kind) for kind, parents in busy.world()[0] for again in (1, 2)])

    def test_asked_again_nothing_is_walked_and_what_is_kept_is_not_reckoned(self):
        chance = random.Random(74)
        for turn in range(60):
            house = house_of(world_by_chance(chance))
            told = all_told(house)
            kept = kept_by(house)
            for asking in [key for key in told if len(key) == 3 and told[key][0] == "told"]:
                self.assertEqual(outcome(house.ask, *asking), told[asking])
            self.assertEqual(kept_by(house), kept)
            self.assertEqual(all_told(house), told)
            # What is refused may begin to be reckoned again, but all that it looks for is kept.
            self.assertEqual(kept_by(house)[:-1], kept[:-1])
