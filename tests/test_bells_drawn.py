"""Desks and devices over many drawn courses: whatever happens to the letters, each bell rings once."""

import random
import unittest

from hushnotice.bells import Desk, Device
from hushnotice.errors import IsOff, NotRinging

MANY = 400
STEPS = 120


class Town:
    """A desk, its devices, all letters that were told, and what has to hold of them."""

    def __init__(self, test, chance):
        self.test, self.chance = test, chance
        self.many = chance.randint(1, 4)
        self.desk = Desk(self.many)
        self.devices = [Device(number) for number in range(self.many)]
        self.on = [True] * self.many
        self.bells = 0
        # Each (to whom, letter); a device by its number, the desk by None.
        self.under_way = []
        self.granted, self.withdrawn, self.taken, self.taken_first = {}, {}, {}, {}
        self.gone = [set() for _ in self.devices]
        self.rang = [[] for _ in self.devices]

    def offer(self):
        self.test.assertEqual(self.desk.offer(), self.bells)
        self.bells += 1

    def withdraw(self):
        if not self.bells:
            return
        bell = self.chance.randrange(self.bells)
        state = self.desk.state(bell)
        told = self.desk.withdraw(bell)
        self.test.assertEqual(told, state[1] if len(state) == 2 else None)
        self.test.assertEqual(self.withdrawn.setdefault(bell, told), told)
        if state[0] == "taken":
            self.test.assertEqual(self.desk.state(bell), state)
        else:
            self.test.assertEqual(self.desk.state(bell), ("withdrawn", told))

    def desk_tells(self):
        number = self.chance.randrange(self.many)
        self.under_way.extend((number, letter) for letter in self.desk.letters(number))

    def device_tells(self):
        number = self.chance.randrange(self.many)
        letters = self.devices[number].letters()
        if not self.on[number]:
            self.test.assertEqual(letters, [])
        self.under_way.extend((None, letter) for letter in letters)

    def hand_one(self):
        """Hand some letter, early or late; most of them may be handed again."""
        if not self.under_way:
            return
        at = self.chance.randrange(len(self.under_way))
        to_whom, letter = self.under_way[at]
        if self.chance.random() < 0.4:
            del self.under_way[at]
        self.test.assertIsNone(self.hand(to_whom, letter))

    def hand(self, to_whom, letter):
        if to_whom is None:
            return self.desk.hear(letter)
        device = self.devices[to_whom]
        before = (device.rings(), device.rang())
        told = device.hear(letter)
        if not self.on[to_whom]:
            self.test.assertEqual((device.rings(), device.rang()), before)
        return told

    def lose_some(self):
        self.under_way = [letter for letter in self.under_way if self.chance.random() < 0.5]

    def turn(self):
        number = self.chance.randrange(self.many)
        self.on[number] = self.chance.random() < 0.6
        self.devices[number].turn(on=self.on[number])

    def take(self):
        number = self.chance.randrange(self.many)
        device = self.devices[number]
        bell = self.chance.randrange(self.bells + 1)
        rings = bell in device.rings()
        if not self.on[number]:
            self.test.assertRaises(IsOff, device.take, bell)
            self.test.assertEqual(bell in device.rings(), rings)
        elif not rings:
            self.test.assertRaises(NotRinging, device.take, bell)
        else:
            device.take(bell)
            self.test.assertNotIn(bell, device.rings())
            self.taken_first[bell] = bell not in self.withdrawn
            self.taken[bell] = number

    def tell_gone(self):
        """A device hears all that the desk tells now: so what is withdrawn or taken is gone there."""
        number = self.chance.randrange(self.many)
        letters = self.desk.letters(number)
        self.chance.shuffle(letters)
        for letter in letters:
            self.hand(number, letter)
        if self.on[number]:
            for bell in range(self.bells):
                if self.desk.state(bell)[0] in ("withdrawn", "taken"):
                    self.gone[number].add(bell)

    def check(self):
        test = self.test
        rang = [device.rang() for device in self.devices]
        together = [bell for bells in rang for bell in bells]
        test.assertEqual(len(together), len(set(together)))
        for number, device in enumerate(self.devices):
            rings = device.rings()
            test.assertEqual(rings, sorted(rings))
            test.assertLessEqual(set(rings), set(rang[number]))
            test.assertFalse(set(rings) & self.gone[number])
            test.assertEqual(rang[number][:len(self.rang[number])], self.rang[number])
            for bell in rang[number]:
                test.assertEqual(self.desk.state(bell)[1], number)
        self.rang = rang
        for bell in range(self.bells):
            self.check_state(bell)
        for bell in self.taken:
            test.assertFalse([number for number in range(self.many) if bell in self.devices[number].rings()])

    def check_state(self, bell):
        state = self.desk.state(bell)
        if state[0] == "open":
            self.test.assertEqual(state, ("open",))
            self.test.assertNotIn(bell, self.granted)
            self.test.assertNotIn(bell, self.withdrawn)
            return
        self.test.assertEqual(len(state), 2)
        self.test.assertIn(state[0], ("granted", "taken", "withdrawn"))
        # Whatever was told of it ahead stays: the device, and that it was taken or withdrawn.
        self.test.assertEqual(self.granted.setdefault(bell, state[1]), state[1])
        if bell in self.withdrawn:
            self.test.assertNotEqual(state[0], "granted")
            self.test.assertEqual(state[1], self.withdrawn[bell])
        if state[0] == "taken":
            self.test.assertEqual(self.taken[bell], state[1])

    def round(self):
        for number in range(self.many):
            for letter in self.desk.letters(number):
                self.hand(number, letter)
        for device in self.devices:
            for letter in device.letters():
                self.hand(None, letter)
        self.check()

    def check_rounds(self):
        """What is promised behind rounds in which each device stays on or off, and some one on."""
        test = self.test
        lasting = self.chance.randrange(self.many)
        for number in range(self.many):
            self.on[number] = self.on[number] or number == lasting
            self.devices[number].turn(on=self.on[number])
        were_open = [bell for bell in range(self.bells) if self.desk.state(bell) == ("open",)]
        self.round()
        self.round()
        for bell in were_open:
            test.assertEqual(len([device for device in self.devices if bell in device.rang()]), 1)
        for number, device in enumerate(self.devices):
            if self.on[number]:
                for bell in device.rings():
                    if self.chance.random() < 0.5:
                        device.take(bell)
                        self.taken[bell], self.taken_first[bell] = number, bell not in self.withdrawn
        self.round()
        for bell, number in self.taken.items():
            if self.on[number] and self.taken_first[bell]:
                test.assertEqual(self.desk.state(bell), ("taken", number))
        self.round()
        for bell in self.taken:
            test.assertFalse([device for device in self.devices if bell in device.rings()])


class DrawnTest(unittest.TestCase):
    def test_whatever_happens_to_the_letters(self):
        rang = taken = 0
        for seed in range(MANY):
            chance = random.Random(seed)
            with self.subTest(seed=seed):
                town = Town(self, chance)
                steps = [
                    town.offer, town.withdraw, town.desk_tells, town.desk_tells, town.device_tells, town.device_tells,
                    town.lose_some, town.turn, town.take, town.take, town.tell_gone, *[town.hand_one] * 12,
                ]
                for _ in range(STEPS):
                    chance.choice(steps)()
                    town.check()
                town.check_rounds()
                # Letters of long ago are handed once more.
                for to_whom, letter in town.under_way:
                    town.hand(to_whom, letter)
                    town.check()
                rang += sum(len(bells) for bells in town.rang)
                taken += len(town.taken)
        self.assertGreater(rang, MANY)
        self.assertGreater(taken, MANY // 2)


if __name__ == "__main__":
    unittest.main()
