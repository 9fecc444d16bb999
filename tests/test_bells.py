"""Desks and devices, by letters that are lost, come late, again, in any turn."""

import copy
import unittest

from hushnotice.bells import Desk, Device
from hushnotice.errors import BadBell, BadDevice, IsOff, NotRinging
from tests.helps import refused

NO_NUMBERS = (None, True, False, "", "0", "1", (), (0,), (1, 2), [], [0])


def house(many, bells=0):
    """A desk, all its devices, and bells offered."""
    desk = Desk(many)
    for _ in range(bells):
        desk.offer()
    return desk, [Device(number) for number in range(many)]


def tell_devices(desk, devices):
    for number, device in enumerate(devices):
        for letter in desk.letters(number):
            device.hear(letter)


def tell_desk(desk, devices):
    for device in devices:
        for letter in device.letters():
            desk.hear(letter)


def rounds(desk, devices, many=1):
    for _ in range(many):
        tell_devices(desk, devices)
        tell_desk(desk, devices)


def ringing(bells=1):
    """A desk with two devices, of which the first rings all bells, and the second is on too."""
    desk, devices = house(2, bells)
    devices[1].turn(on=False)
    rounds(desk, devices, 2)
    devices[1].turn(on=True)
    return desk, devices[0], devices[1]


def heard(one, letters):
    for letter in letters:
        one.hear(letter)


class DeskTest(unittest.TestCase):
    def test_1_to_4_devices(self):
        for many in range(1, 5):
            desk = Desk(many)
            desk.offer()
            for device in range(many):
                desk.letters(device)
            for device in (many, many + 1, -1, 100) + NO_NUMBERS:
                with self.subTest(many=many, device=device):
                    refused(self, BadDevice, desk.letters, device)

    def test_other_numbers_of_devices(self):
        for many in (0, -1, 5, 100) + NO_NUMBERS:
            with self.subTest(many=many):
                refused(self, BadDevice, Desk, many)

    def test_bells_are_numbered_from_0_on(self):
        desk = Desk(1)
        self.assertEqual([desk.offer() for _ in range(5)], [0, 1, 2, 3, 4])
        desk.withdraw(4)
        self.assertEqual(desk.offer(), 5)
        self.assertEqual(Desk(1).offer(), 0)

    def test_an_offered_bell_is_open(self):
        desk, _ = house(2, 2)
        self.assertEqual([desk.state(0), desk.state(1)], [("open",), ("open",)])
        tell_devices(desk, [])
        self.assertEqual(desk.state(0), ("open",))

    def test_bad_bells(self):
        for many in (0, 1, 3):
            desk, _ = house(1, many)
            for bell in range(many):
                desk.state(bell)
                desk.withdraw(bell)
            for bell in (many, many + 1, -1, 100) + NO_NUMBERS:
                with self.subTest(many=many, bell=bell):
                    refused(self, BadBell, desk.state, bell)
                    refused(self, BadBell, desk.withdraw, bell)

    def test_what_is_refused_changes_nothing(self):
        desk, devices = house(2, 2)
        before = [desk.letters(0), desk.letters(1), desk.state(0), desk.state(1)]
        refused(self, BadBell, desk.withdraw, 2)
        refused(self, BadBell, desk.withdraw, True)
        refused(self, BadBell, desk.state, -1)
        refused(self, BadDevice, desk.letters, 2)
        self.assertEqual([desk.letters(0), desk.letters(1), desk.state(0), desk.state(1)], before)
        self.assertEqual(desk.offer(), 2)
        rounds(desk, devices, 2)
        self.assertEqual(devices[0].rings() + devices[1].rings(), [0, 1, 2])


class DeviceTest(unittest.TestCase):
    def test_numbers_0_to_3(self):
        for number in range(4):
            device = Device(number)
            self.assertEqual((device.letters(), device.rings(), device.rang()), ([], [], []))

    def test_other_numbers(self):
        for number in (-1, 4, 100) + NO_NUMBERS:
            with self.subTest(number=number):
                refused(self, BadDevice, Device, number)

    def test_it_is_on_at_first(self):
        refused(self, NotRinging, Device(0).take, 0)

    def test_each_device_of_a_desk_may_ring(self):
        for many in range(1, 5):
            for number in range(many):
                desk, devices = house(many, 1)
                for other in devices:
                    other.turn(on=other is devices[number])
                rounds(desk, devices, 2)
                self.assertEqual(desk.state(0), ("granted", number))
                self.assertEqual([device.rings() for device in devices], [[0] * (one == number) for one in range(many)])

    def test_rings_rise_and_rang_is_in_turn(self):
        desk, device = Desk(1), Device(0)
        for _ in range(3):
            desk.offer()
        tell_devices(desk, [device])
        tell_desk(desk, [device])
        letters = desk.letters(0)
        self.assertEqual(len(letters), 3)
        for letter in (letters[2], letters[0], letters[1], letters[0]):
            device.hear(letter)
        self.assertEqual((device.rings(), device.rang()), ([0, 1, 2], [2, 0, 1]))
        device.take(0)
        self.assertEqual((device.rings(), device.rang()), ([1, 2], [2, 0, 1]))

    def test_take_one_that_rings(self):
        desk, device, _ = ringing(2)
        self.assertIsNone(device.take(1))
        self.assertEqual((device.rings(), device.rang()), ([0], [0, 1]))
        self.assertEqual(desk.state(1), ("granted", 0))
        tell_desk(desk, [device])
        self.assertEqual((desk.state(0), desk.state(1)), (("granted", 0), ("taken", 0)))

    def test_others_are_not_ringing(self):
        desk, device, other = ringing(2)
        device.take(1)
        for bell in (1, 2, -1, 100) + NO_NUMBERS:
            with self.subTest(bell=bell):
                refused(self, NotRinging, device.take, bell)
                refused(self, NotRinging, other.take, bell)
        refused(self, NotRinging, other.take, 0)
        self.assertEqual((device.rings(), device.rang(), other.rings(), other.rang()), ([0], [0, 1], [], []))
        rounds(desk, [device, other])
        self.assertEqual((desk.state(0), desk.state(1)), (("granted", 0), ("taken", 0)))

    def test_true_and_false_ring_nowhere(self):
        _, device, _ = ringing(2)
        refused(self, NotRinging, device.take, True)
        refused(self, NotRinging, device.take, False)
        self.assertEqual(device.rings(), [0, 1])

    def test_taken_twice(self):
        _, device, _ = ringing()
        device.take(0)
        refused(self, NotRinging, device.take, 0)


class OffTest(unittest.TestCase):
    def test_nothing_is_heard(self):
        desk, device, _ = ringing(1)
        fresh = Device(0)
        fresh.turn(on=False)
        self.assertIsNone(heard(fresh, desk.letters(0)))
        fresh.turn(on=True)
        self.assertEqual((fresh.rings(), fresh.rang(), fresh.letters()), ([], [], []))
        desk.withdraw(0)
        device.turn(on=False)
        heard(device, desk.letters(0))
        self.assertEqual(device.rings(), [0])
        device.turn(on=True)
        self.assertEqual(device.rings(), [0])
        heard(device, desk.letters(0))
        self.assertEqual(device.rings(), [])

    def test_no_letters_are_told(self):
        desk, device, _ = ringing(2)
        device.take(0)
        letters = device.letters()
        device.turn(on=False)
        self.assertEqual(device.letters(), [])
        device.turn(on=True)
        self.assertEqual(device.letters(), letters)
        heard(desk, letters)
        self.assertEqual(desk.state(0), ("taken", 0))

    def test_nothing_is_taken(self):
        _, device, _ = ringing(2)
        device.turn(on=False)
        for bell in (0, 1, 2, -1) + NO_NUMBERS:
            with self.subTest(bell=bell):
                refused(self, IsOff, device.take, bell)
        self.assertEqual((device.rings(), device.rang()), ([0, 1], [0, 1]))
        device.turn(on=True)
        device.take(1)
        self.assertEqual(device.rings(), [0])

    def test_turned_twice(self):
        _, device, _ = ringing()
        self.assertIsNone(device.turn(on=True))
        device.take(0)
        device.turn(on=False)
        self.assertIsNone(device.turn(on=False))
        refused(self, IsOff, device.take, 0)

    def test_a_desk_hears_what_was_told_ahead_of_that(self):
        desk, devices = house(2, 1)
        heard(devices[0], desk.letters(0))
        letters = devices[0].letters()
        devices[0].turn(on=False)
        heard(desk, letters)
        self.assertEqual(desk.state(0), ("granted", 0))
        rounds(desk, devices, 3)
        self.assertEqual([device.rang() for device in devices], [[], []])
        devices[0].turn(on=True)
        rounds(desk, devices)
        self.assertEqual([device.rang() for device in devices], [[0], []])

    def test_devices_that_are_off_are_passed_by(self):
        desk, devices = house(4, 3)
        for device in devices[:3]:
            device.turn(on=False)
        rounds(desk, devices, 2)
        self.assertEqual([device.rings() for device in devices], [[], [], [], [0, 1, 2]])

    def test_none_is_on(self):
        desk, devices = house(2, 1)
        for device in devices:
            device.turn(on=False)
        rounds(desk, devices, 5)
        self.assertEqual(desk.state(0), ("open",))
        devices[1].turn(on=True)
        rounds(desk, devices, 2)
        self.assertEqual((desk.state(0), devices[1].rings()), (("granted", 1), [0]))


class LettersTest(unittest.TestCase):
    def test_nothing_is_to_be_told_at_first(self):
        self.assertEqual(Desk(2).letters(1), [])
        self.assertEqual(Device(1).letters(), [])

    def test_letters_are_tuples(self):
        desk, devices = house(2, 3)
        for _ in range(3):
            for told in [desk.letters(0), desk.letters(1), devices[0].letters(), devices[1].letters()]:
                self.assertIs(type(told), list)
                for letter in told:
                    self.assertIs(type(letter), tuple)
                    hash(letter)
            rounds(desk, devices)
            for device in devices:
                for bell in device.rings()[:1]:
                    device.take(bell)
            desk.withdraw(2)

    def test_asked_again_the_same_is_told(self):
        desk, devices = house(2, 3)
        for _ in range(4):
            for call, rest in [(desk.letters, (0,)), (desk.letters, (1,)), (desk.state, (0,))] + [
                (ask, ()) for device in devices for ask in (device.letters, device.rings, device.rang)
            ]:
                told = copy.copy(call(*rest))
                self.assertEqual(call(*rest), told)
            rounds(desk, devices)
            for device in devices:
                for bell in device.rings()[:1]:
                    device.take(bell)

    def test_what_is_told_may_be_changed(self):
        desk, device, _ = ringing(2)
        device.take(0)
        asked = (device.rings, device.rang, device.letters, lambda: desk.letters(0), lambda: desk.letters(1))
        for ask in asked:
            before = list(ask())
            self.assertTrue(before)
            told = ask()
            told.reverse()
            told.append("changed")
            self.assertEqual(ask(), before)
        self.assertIs(type(desk.state(0)), tuple)

    def test_lost_ones(self):
        desk, devices = house(1, 1)
        desk.letters(0)
        self.assertEqual(devices[0].letters(), [])
        tell_devices(desk, devices)
        devices[0].letters()
        self.assertEqual(desk.state(0), ("open",))
        tell_desk(desk, devices)
        desk.letters(0)
        self.assertEqual(devices[0].rings(), [])
        tell_devices(desk, devices)
        self.assertEqual(devices[0].rings(), [0])
        devices[0].take(0)
        devices[0].letters()
        self.assertEqual(desk.state(0), ("granted", 0))
        tell_desk(desk, devices)
        self.assertEqual(desk.state(0), ("taken", 0))

    def test_heard_twice(self):
        desk, devices = house(2, 1)
        tell_devices(desk, devices)
        tell_devices(desk, devices)
        wants = devices[0].letters() + devices[1].letters()
        heard(desk, wants + wants)
        self.assertEqual(desk.state(0), ("granted", 0))
        letters = desk.letters(0)
        heard(devices[0], letters + letters)
        self.assertEqual((devices[0].rings(), devices[0].rang()), ([0], [0]))

    def test_heard_again_behind_a_taking(self):
        desk, devices = house(2, 1)
        offers = desk.letters(0)
        heard(devices[0], offers)
        wants = devices[0].letters()
        heard(desk, wants)
        grants = desk.letters(0)
        heard(devices[0], grants)
        devices[0].take(0)
        takings = devices[0].letters()
        heard(devices[0], grants + offers)
        self.assertEqual((devices[0].rings(), devices[0].rang()), ([], [0]))
        self.assertEqual(devices[0].letters(), takings)
        heard(desk, takings + wants + takings)
        self.assertEqual(desk.state(0), ("taken", 0))
        heard(devices[0], desk.letters(0) + grants + offers)
        self.assertEqual((devices[0].rings(), devices[0].rang()), ([], [0]))
        refused(self, NotRinging, devices[0].take, 0)

    def test_in_another_turn(self):
        desk, devices = house(2, 1)
        offers = desk.letters(0)
        heard(devices[0], offers)
        heard(desk, devices[0].letters())
        grants = desk.letters(0)
        fresh = Device(0)
        heard(fresh, grants + offers)
        self.assertEqual((fresh.rings(), fresh.rang(), fresh.letters()), ([0], [0], []))

    def test_late_wants_of_another_device_change_nothing(self):
        desk, devices = house(2, 1)
        tell_devices(desk, devices)
        late = devices[1].letters()
        heard(desk, devices[0].letters())
        heard(desk, late)
        self.assertEqual(desk.state(0), ("granted", 0))
        rounds(desk, devices)
        heard(desk, late)
        self.assertEqual((devices[0].rings(), devices[1].rang()), ([0], []))
        devices[0].take(0)
        rounds(desk, devices)
        heard(desk, late)
        self.assertEqual(desk.state(0), ("taken", 0))

    def test_a_device_hears_its_own_letters_alone(self):
        desk, device, other = ringing()
        heard(other, desk.letters(0))
        self.assertEqual((device.rang(), other.rang()), ([0], []))

    def test_nothing_is_told_for_good(self):
        desk, devices = house(2, 2)
        rounds(desk, devices, 2)
        devices[0].take(0)
        rounds(desk, devices, 2)
        self.assertEqual([device.letters() for device in devices], [[], []])


class WithdrawTest(unittest.TestCase):
    def test_ahead_of_being_granted(self):
        desk, devices = house(2, 1)
        tell_devices(desk, devices)
        wants = devices[0].letters()
        self.assertIsNone(desk.withdraw(0))
        self.assertEqual(desk.state(0), ("withdrawn", None))
        heard(desk, wants)
        self.assertEqual(desk.state(0), ("withdrawn", None))
        rounds(desk, devices, 4)
        self.assertEqual([device.rang() for device in devices], [[], []])

    def test_behind_being_granted(self):
        desk, devices = house(2, 1)
        rounds(desk, devices)
        self.assertEqual(desk.withdraw(0), 0)
        self.assertEqual(desk.state(0), ("withdrawn", 0))
        rounds(desk, devices, 4)
        self.assertEqual([device.rang() for device in devices], [[], []])
        self.assertEqual(desk.state(0), ("withdrawn", 0))

    def test_while_it_rings(self):
        desk, device, other = ringing()
        self.assertEqual(desk.withdraw(0), 0)
        self.assertEqual(device.rings(), [0])
        tell_devices(desk, [device, other])
        self.assertEqual((device.rings(), device.rang()), ([], [0]))
        refused(self, NotRinging, device.take, 0)

    def test_letters_under_way_may_ring_it_still(self):
        desk, devices = house(2, 1)
        rounds(desk, devices)
        grants = desk.letters(0)
        desk.withdraw(0)
        heard(devices[0], grants)
        self.assertEqual(devices[0].rings(), [0])
        tell_devices(desk, devices)
        self.assertEqual((devices[0].rings(), devices[0].rang()), ([], [0]))

    def test_told_to_be_gone_it_does_not_ring_by_late_letters(self):
        desk, devices = house(2, 1)
        offers = desk.letters(0)
        rounds(desk, devices)
        grants = desk.letters(0)
        desk.withdraw(0)
        heard(devices[0], desk.letters(0) + grants + offers + grants)
        self.assertEqual((devices[0].rings(), devices[0].rang(), devices[0].letters()), ([], [], []))

    def test_behind_being_taken(self):
        desk, device, other = ringing()
        device.take(0)
        rounds(desk, [device, other])
        self.assertEqual(desk.withdraw(0), 0)
        self.assertEqual(desk.state(0), ("taken", 0))
        self.assertEqual(desk.withdraw(0), 0)
        rounds(desk, [device, other], 2)
        self.assertEqual(desk.state(0), ("taken", 0))

    def test_twice(self):
        desk, devices = house(2, 2)
        desk.withdraw(0)
        rounds(desk, devices, 2)
        desk.withdraw(1)
        for _ in range(2):
            self.assertIsNone(desk.withdraw(0))
            self.assertEqual(desk.withdraw(1), 0)
            self.assertEqual((desk.state(0), desk.state(1)), (("withdrawn", None), ("withdrawn", 0)))
            rounds(desk, devices)

    def test_the_device_is_that_which_was_granted(self):
        desk, devices = house(4, 1)
        tell_devices(desk, devices)
        tell_desk(desk, [devices[2], devices[1]])
        self.assertEqual(desk.withdraw(0), 2)
        self.assertEqual(desk.state(0), ("withdrawn", 2))

    def test_others_stay_as_they_are(self):
        desk, devices = house(1, 3)
        desk.withdraw(1)
        rounds(desk, devices, 2)
        self.assertEqual([desk.state(bell) for bell in range(3)], [("granted", 0), ("withdrawn", None), ("granted", 0)])
        self.assertEqual(devices[0].rings(), [0, 2])

    def test_taken_at_the_device_ahead_of_it(self):
        # The withdrawal wasn't ahead of the taking, though the desk didn't know of that.
        desk, device, other = ringing()
        device.take(0)
        self.assertEqual(desk.withdraw(0), 0)
        self.assertEqual(desk.state(0), ("withdrawn", 0))
        rounds(desk, [device, other])
        self.assertEqual(desk.state(0), ("taken", 0))
        self.assertEqual(desk.withdraw(0), 0)

    def test_taken_at_the_device_behind_it(self):
        desk, device, other = ringing()
        desk.withdraw(0)
        device.take(0)
        rounds(desk, [device, other], 2)
        self.assertEqual(device.rings(), [])
        self.assertIn(desk.state(0), [("withdrawn", 0), ("taken", 0)])
        self.assertEqual(desk.withdraw(0), 0)


class RoundsTest(unittest.TestCase):
    def test_behind_two_rounds_each_bell_rings_at_just_one(self):
        for many in range(1, 5):
            for which in range(1, 2 ** many):
                desk, devices = house(many, 3)
                for number, device in enumerate(devices):
                    device.turn(on=which >> number & 1 == 1)
                rounds(desk, devices, 2)
                rang = sorted(bell for device in devices for bell in device.rang())
                self.assertEqual(rang, [0, 1, 2])
                for bell in range(3):
                    word, number = desk.state(bell)
                    self.assertEqual((word, devices[number].rings().count(bell)), ("granted", 1))

    def test_behind_one_more_a_taken_one_is_taken_at_the_desk(self):
        desk, devices = house(3, 2)
        rounds(desk, devices, 2)
        _, number = desk.state(0)
        devices[number].take(0)
        rounds(desk, devices)
        self.assertEqual(desk.state(0), ("taken", number))
        rounds(desk, devices)
        self.assertEqual([0 in device.rings() for device in devices], [False] * 3)

    def test_taken_then_off_then_on(self):
        desk, device, other = ringing()
        device.take(0)
        device.turn(on=False)
        rounds(desk, [device, other], 3)
        self.assertEqual(desk.state(0), ("granted", 0))
        device.turn(on=True)
        rounds(desk, [device, other])
        self.assertEqual(desk.state(0), ("taken", 0))

    def test_a_bell_that_is_offered_later(self):
        desk, devices = house(2, 1)
        rounds(desk, devices, 2)
        desk.offer()
        rounds(desk, devices, 2)
        self.assertEqual(sorted(devices[0].rings() + devices[1].rings()), [0, 1])

    def test_two_desks_are_apart(self):
        desk, devices = house(1, 1)
        other, others = house(1, 2)
        rounds(desk, devices, 2)
        self.assertEqual((devices[0].rings(), others[0].rings()), ([0], []))
        self.assertEqual((desk.state(0), other.state(0)), (("granted", 0), ("open",)))
        refused(self, BadBell, desk.state, 1)


if __name__ == "__main__":
    unittest.main()
