"""[80], [81] and clearfloor/radio.py and clearfloor/unit.py in the interface."""

import itertools
import unittest

from clearfloor.radio import Radio
from clearfloor.unit import Unit

ASK = ("ask", 1)
MOVE = ("move", 0, 0, 1, 3)
TOLD = ("told", 2, 1, 4, 7, False)


def made(letters):
    radio = Radio()
    for letter in letters:
        radio.send(letter)
    return radio


class RadioTest(unittest.TestCase):
    def test_a_new_radio(self):
        self.assertEqual(Radio().letters, [])
        self.assertEqual(Radio().letters, [])

    def test_send(self):
        radio = Radio()
        for at, letter in enumerate((ASK, MOVE, MOVE, TOLD, ASK)):
            self.assertIsNone(radio.send(letter))
            self.assertEqual(radio.letters, [ASK, MOVE, MOVE, TOLD, ASK][:at + 1])

    def test_take(self):
        for index in range(4):
            letters = [ASK, MOVE, TOLD, MOVE]
            radio = made(letters)
            self.assertEqual(radio.take(index), letters[index])
            del letters[index]
            self.assertEqual(radio.letters, letters)

    def test_lose(self):
        for index in range(4):
            letters = [ASK, MOVE, TOLD, MOVE]
            radio = made(letters)
            self.assertIs(radio.lose(index), True)
            del letters[index]
            self.assertEqual(radio.letters, letters)

    def test_double(self):
        for index in range(4):
            letters = [ASK, MOVE, TOLD, MOVE]
            radio = made(letters)
            self.assertIs(radio.double(index), True)
            self.assertEqual(radio.letters, letters + [letters[index]])

    def test_no_such_index(self):
        for letters in ([], [ASK], [ASK, MOVE, TOLD]):
            many = len(letters)
            for index in (-many - 1, -many, -2, -1, many, many + 1, 99):
                if not 0 <= index < many:
                    radio = made(letters)
                    self.assertIsNone(radio.take(index))
                    self.assertIs(radio.lose(index), False)
                    self.assertIs(radio.double(index), False)
                    self.assertEqual(radio.letters, letters)

    def test_one_after_another(self):
        radio = made([ASK, MOVE])
        radio.double(0)
        self.assertEqual(radio.letters, [ASK, MOVE, ASK])
        self.assertEqual(radio.take(1), MOVE)
        self.assertTrue(radio.lose(0))
        radio.send(TOLD)
        self.assertEqual([radio.take(0), radio.take(0), radio.take(0)], [ASK, TOLD, None])
        self.assertEqual(radio.letters, [])


class UnitTest(unittest.TestCase):
    def check(self, unit, lives, done, position, works):
        self.assertEqual((unit.lives, unit.done, unit.position, unit.works), (lives, done, position, works))
        told = unit.told()
        self.assertEqual(told, ("told", unit.number, lives, done, position, works))
        self.assertIsInstance(told, tuple)

    def later(self, lives, done, position, works=True):
        """The unit 2 in a later life, behind some commands."""
        unit = Unit(2, 9)
        for _ in range(lives):
            unit.fail()
            unit.repair(9)
        for count in range(1, done + 1):
            unit.hear(("move", 2, lives, count, position))
        if not works:
            unit.fail()
        self.check(unit, lives, done, position if done else 9, works)
        return unit

    def test_a_new_unit(self):
        for number, position in ((0, 4), (11, 0), (3, 120)):
            unit = Unit(number, position)
            self.assertEqual(unit.number, number)
            self.check(unit, 0, 0, position, True)

    def test_the_next_command_of_this_life(self):
        unit = Unit(2, 9)
        self.assertEqual(unit.hear(("move", 2, 0, 1, 3)), ("told", 2, 0, 1, 3, True))
        self.check(unit, 0, 1, 3, True)
        self.assertEqual(unit.hear(("move", 2, 0, 2, 4)), ("told", 2, 0, 2, 4, True))
        self.check(unit, 0, 2, 4, True)
        self.assertEqual(unit.hear(("move", 2, 0, 3, 9)), ("told", 2, 0, 3, 9, True))

    def test_commands_of_each_life_and_count(self):
        for lives, done, works in itertools.product(range(3), (0, 1, 2, 5), (True, False)):
            for other, count in itertools.product(range(5), range(9)):
                unit = self.later(lives, done, 3, works)
                place = unit.position
                answer = unit.hear(("move", 2, other, count, 7))
                if works and other == lives and count == done + 1:
                    self.check(unit, lives, done + 1, 7, True)
                else:
                    self.check(unit, lives, done, place, works)
                self.assertEqual(answer, unit.told())

    def test_by_hand(self):
        unit = self.later(1, 2, 3)
        for letter in (("move", 2, 0, 3, 7), ("move", 2, 2, 3, 7), ("move", 2, 1, 2, 7), ("move", 2, 1, 4, 7)):
            self.assertEqual(unit.hear(letter), ("told", 2, 1, 2, 3, True))
        self.assertEqual(unit.hear(("move", 2, 1, 3, 7)), ("told", 2, 1, 3, 7, True))
        self.assertEqual(unit.hear(("move", 2, 1, 3, 5)), ("told", 2, 1, 3, 7, True))
        unit.fail()
        self.assertEqual(unit.hear(("move", 2, 1, 4, 5)), ("told", 2, 1, 3, 7, False))

    def test_questions(self):
        for works in (True, False):
            unit = self.later(1, 2, 3, works)
            self.assertEqual(unit.hear(("ask", 2)), ("told", 2, 1, 2, 3, works))
            self.check(unit, 1, 2, 3, works)

    def test_letters_to_others(self):
        for works in (True, False):
            unit = self.later(0, 1, 3, works)
            for number in (0, 1, 3, 22):
                self.assertIsNone(unit.hear(("ask", number)))
                self.assertIsNone(unit.hear(("move", number, 0, 2, 7)))
            self.check(unit, 0, 1, 3, works)

    def test_letters_that_units_tell(self):
        unit = self.later(0, 1, 3)
        for number in (0, 2, 3):
            self.assertIsNone(unit.hear(("told", number, 0, 2, 7, True)))
        self.assertIsNone(unit.hear(unit.told()))
        self.check(unit, 0, 1, 3, True)

    def test_fail(self):
        unit = self.later(1, 2, 3)
        self.assertIsNone(unit.fail())
        self.check(unit, 1, 2, 3, False)
        unit.fail()
        self.check(unit, 1, 2, 3, False)

    def test_repair(self):
        unit = self.later(1, 2, 3)
        unit.fail()
        unit.fail()
        self.assertIsNone(unit.repair(9))
        self.check(unit, 2, 0, 9, True)
        unit.fail()
        unit.repair(8)
        self.check(unit, 3, 0, 8, True)
        self.assertEqual(unit.hear(("move", 2, 3, 1, 5)), ("told", 2, 3, 1, 5, True))

    def test_a_command_of_an_earlier_life_that_comes_late(self):
        unit = Unit(2, 9)
        late = ("move", 2, 0, 1, 3)
        unit.fail()
        self.assertEqual(unit.hear(late), ("told", 2, 0, 0, 9, False))
        unit.repair(9)
        self.assertEqual(unit.hear(late), ("told", 2, 1, 0, 9, True))
        self.check(unit, 1, 0, 9, True)
