"""Points 5 and 6: what a reckoning is, its inputs and its noughts."""

import copy
import math
import random
import reprlib
import unittest

from makings import METRE, NOUGHT, ONE, PLAIN, TWOS, chance_reckoning, inp, number, walk
from measurekind.reckonings import inputs, is_reckoning, noughts

MOST = 10 ** 9
FORMS = [
    METRE, NOUGHT, inp("a"), ("plus", PLAIN, PLAIN), ("minus", PLAIN, PLAIN), ("times", PLAIN, PLAIN),
    ("over", PLAIN, PLAIN), ("power", PLAIN, 2), ("less", PLAIN, PLAIN, PLAIN, PLAIN),
]
# What is no reckoning at any place.
NONE = [
    0, 1, -7, 10 ** 30, "", "a", "nought", "is", None, True, False, b"nought", 1.5, [], ["nought"], ["input", "a"],
    {}, {"nought": 1}, {"nought"}, (), ("",), ("is",), ("is", ONE), ("is", ONE, (), ()), ("nought", ()),
    ("nought", NOUGHT), ("input",), ("input", "a", "b"), ("plus",), ("plus", PLAIN), ("plus", PLAIN, PLAIN, PLAIN),
    ("minus", PLAIN), ("minus", PLAIN, PLAIN, PLAIN), ("times", PLAIN), ("times", PLAIN, PLAIN, PLAIN),
    ("over", PLAIN), ("over", PLAIN, PLAIN, PLAIN), ("power", PLAIN), ("power", 2), ("power", PLAIN, 2, 2),
    ("less", PLAIN, PLAIN), ("less", PLAIN, PLAIN, PLAIN), ("less", PLAIN, PLAIN, PLAIN, PLAIN, PLAIN),
    ("noughts",), ("Nought",), ("nought ",), ("raised", PLAIN, 2), ("sum", PLAIN, PLAIN), ("more", *[PLAIN] * 4),
    ("PLUS", PLAIN, PLAIN), (None,), (1,), (True, PLAIN, PLAIN), ((), PLAIN, PLAIN), ([], PLAIN, PLAIN),
    ({}, PLAIN, PLAIN), (b"plus", PLAIN, PLAIN), ((("plus",),), PLAIN, PLAIN), (NOUGHT,), (PLAIN, PLAIN),
    ("power", 2, PLAIN), ("is", (), ONE), (ONE, ()), ("a", "input"),
]
# Each with one fault in what is not itself a reckoning.
FAULTY = [
    *[("is", one, ()) for one in (
        1, "1", None, True, (), (1,), (1, 1, 1), [1, 1], {1: 1}, (2, 4), (0, 2), (-3, 3), (1, 0), (0, 0), (1, -1),
        (0, -1), (-1, -1), (True, 1), (1, True), (False, 1), (1, False), ("1", 1), (1, "1"), (1.0, 1), (1, 1.0),
        (None, 1), (1, None), ([1], 1), (1, [1]), (MOST + 1, 1), (-MOST - 1, 1), (1, MOST + 1), (10 ** 400, 7),
    )],
    *[("is", ONE, measure) for measure in (
        None, 0, "", "m", True, [], {}, {"m": 1}, [("m", 1)], (["m", 1],), ("m", 1), (("m",),), (("m", 1, 1),), ((),),
        (("m", 0),), (("m", True),), (("m", False),), (("m", None),), (("m", "1"),), (("m", 1.0),), (("m", (1,)),),
        (("m", [1]),), (("m", 21),), (("m", -21),), (("m", 10 ** 40),), (("=m", 1),), (("=", 1),), (("0", 1),),
        (("00", 1),), (("?0", 1),), (("", 1),), (("M", 1),), (("m1", 1),), (("m ", 1),), (("\u00b5", 1),),
        (("abcdefghi", 1),), ((1, 1),), ((None, 1),), ((True, 1),), ((("m",), 1),), ((["m"], 1),), ((b"m", 1),),
        (("s", 1), ("m", 1)), (("m", 1), ("m", 1)), (("m", 1), ("m", -1)), (("m", 1), ("k", 1), ("s", 1)),
        (("a", 1), ("b", 1), ("b", 2)), (("m", 1), ("ma", 1), ("m", 2)), (("ma", 1), ("m", 1)), (("m", 1), ()),
        (("m", 1), None), (("m", 1), ["s", 1]), (("m", 1), ("s", 0)), tuple((letter, 1) for letter in "abcdefg"),
    )],
    *[("input", name) for name in (
        "", "abcdefghi", "A", "aB", "a1", "1", "a b", " a", "a ", "a\n", "=a", "?0", "a_b", "\u00e9", "a\u00df",
        "\ud800", "`", "{", "a{", "a" * 10 ** 5, None, 1, True, b"a", ["a"], ("a",), ("input", "a"), {"a": 1}, {"a"},
    )],
    *[("power", PLAIN, n) for n in (5, -5, 10 ** 30, True, False, None, "2", 2.0, (2, 1), [2], PLAIN, (2,))],
]


def chain(deep, kind="plus", way=0):
    """A reckoning so deep, deep on one way alone."""
    told = PLAIN
    for _ in range(deep - 1):
        told = placed(kind, told, way)
    return told


def placed(kind, part, way=0):
    """A reckoning of the kind that has the part at a place."""
    if kind == "power":
        return ("power", part, 1)
    around = [PLAIN] * (4 if kind == "less" else 2)
    around[way] = part
    return (kind, *around)


def many(count):
    """A reckoning of so many in all, count from 3 on; not deep."""
    row = [inp("a")] * ((count + 1) // 2)
    if count % 2 == 0:
        row[-1] = ("power", inp("a"), 2)
    while len(row) > 1:
        row = [("plus", *row[at:at + 2]) if at + 1 < len(row) else row[at] for at in range(0, len(row), 2)]
    return row[0]


PLACES = [("power", 0), *[(kind, way) for kind in TWOS for way in (0, 1)], *[("less", way) for way in range(4)]]


class IsReckoningTest(unittest.TestCase):
    def check(self, thing, awaited):
        told = is_reckoning(thing)
        # Told only where it is wrong, as some are far too large to be written out.
        if told is not awaited:
            self.fail(f"{told!r} of {reprlib.repr(thing)}")


class Forms(IsReckoningTest):
    def test_each_alone(self):
        for form in FORMS:
            self.check(form, True)

    def test_each_deep_at_each_place(self):
        for form in FORMS:
            for kind, way in PLACES:
                told = placed(kind, form, way)
                self.check(told, True)
                self.check(placed("over", placed("less", told, 3), 1), True)

    def test_all_in_one(self):
        self.check(("less", *FORMS[3:7]), True)
        self.check(("less", ("plus", FORMS[0], FORMS[1]), FORMS[8], ("minus", FORMS[2], FORMS[7]), FORMS[4]), True)

    def test_many_made_by_chance(self):
        chance = random.Random(5)
        met = {True: 0, False: 0}
        for _ in range(1500):
            told = chance_reckoning(chance, chance.randrange(1, 9))
            fits = len(list(walk(told))) <= 100
            met[fits] += 1
            self.check(told, fits)
        self.assertGreater(min(met.values()), 100)

    def test_none(self):
        for thing in NONE:
            self.check(thing, False)

    def test_faulty(self):
        for thing in FAULTY:
            self.check(thing, False)

    def test_none_and_faulty_at_each_place(self):
        for thing in NONE + FAULTY:
            for kind, way in PLACES:
                self.check(placed(kind, thing, way), False)
                self.check(placed("times", placed("less", thing, 2), 1), False)
                self.check(placed("less", placed(kind, thing, way), 3), False)

    def test_a_fault_within_what_is_never_chosen(self):
        for thing in NONE + FAULTY:
            self.check(("less", number(1), number(2), PLAIN, ("times", NOUGHT, thing)), False)
            self.check(("less", number(2), number(1), ("times", NOUGHT, thing), PLAIN), False)

    def test_a_list_for_a_tuple_at_any_place(self):
        whole = ("less", METRE, ("power", inp("a"), 2), ("plus", NOUGHT, METRE), ("over", METRE, inp("b")))
        self.check(whole, True)
        faults = list(with_one_list(whole))
        self.assertEqual(len(faults), 19)
        for thing in faults:
            self.check(thing, False)


def with_one_list(thing):
    """The tuple, in which one tuple is a list: each way that there is."""
    yield list(thing)
    for at, part in enumerate(thing):
        if isinstance(part, tuple):
            for changed in with_one_list(part):
                yield thing[:at] + (changed,) + thing[at + 1:]


class Bounds(IsReckoningTest):
    def test_above(self):
        for above in (-MOST, -MOST + 1, -1, 0, 1, MOST - 1, MOST):
            self.check(("is", (above, 1), ()), True)
        for above in (-MOST - 1, MOST + 1, 10 ** 18, -10 ** 100):
            self.check(("is", (above, 1), ()), False)

    def test_below(self):
        for below in (1, 2, MOST - 1, MOST):
            self.check(("is", (1, below), ()), True)
            self.check(("is", (-1, below), ()), True)
        for below in (MOST + 1, 10 ** 18, 0, -1, -MOST):
            self.check(("is", (1, below), ()), False)

    def test_above_and_below(self):
        self.check(("is", (MOST, MOST - 1), ()), True)
        self.check(("is", (-MOST + 1, MOST), ()), True)
        self.check(("is", (MOST, MOST), ()), False)
        self.check(("is", (MOST + 1, MOST), ()), False)

    def test_lowest_terms(self):
        for above in range(-12, 13):
            for below in range(1, 13):
                self.check(("is", (above, below), ()), math.gcd(above, below) == 1)
        self.check(("is", (500, MOST), ()), False)
        self.check(("is", (0, MOST), ()), False)

    def test_letters_of_a_measure(self):
        for count in range(7):
            self.check(("is", ONE, tuple((letter, 1) for letter in "abcdef"[:count])), True)
        for letters in ("abcdefg", "abcdefghijkl"):
            self.check(("is", ONE, tuple((letter, 1) for letter in letters)), False)

    def test_powers_of_a_measure(self):
        for power in range(-23, 24):
            self.check(("is", ONE, (("m", power),)), -20 <= power <= 20 and power != 0)
            self.check(("is", ONE, (("a", -1), ("m", power))), -20 <= power <= 20 and power != 0)

    def test_letters_rise_as_texts_do(self):
        self.check(("is", ONE, (("b", 1), ("ba", 1), ("c", 1))), True)
        self.check(("is", ONE, (("aa", 1), ("b", 1))), True)
        self.check(("is", ONE, (("b", 1), ("aa", 1))), False)

    def test_names_and_bases(self):
        for name in ("a", "z", "az", "abcdefgh", "zzzzzzzz", "nought", "is"):
            self.check(inp(name), True)
            self.check(("is", ONE, ((name, 1),)), True)
        for name in ("", "abcdefghi", "zzzzzzzzz"):
            self.check(inp(name), False)
            self.check(("is", ONE, ((name, 1),)), False)

    def test_signs_of_names(self):
        for code in list(range(300)) + [0x430, 0xff41, 0x1d41a, 0xdfff]:
            for name in (chr(code), "a" + chr(code), chr(code) + "z"):
                self.check(inp(name), "a" <= chr(code) <= "z")
                self.check(("is", ONE, ((name, 1),)), "a" <= chr(code) <= "z")

    def test_n_of_a_power(self):
        for n in range(-7, 8):
            self.check(("power", METRE, n), -4 <= n <= 4)


class Sizes(IsReckoningTest):
    def test_deep_on_one_way_alone(self):
        for kind, way in PLACES[1:]:
            for deep in (1, 2, 11, 12):
                self.check(chain(deep, kind, way), True)
            for deep in (13, 14, 20):
                self.check(chain(deep, kind, way), False)

    def test_each_form_at_the_bottom(self):
        for form in FORMS[:3]:
            self.check(placed("minus", form), True)
            told = form
            for _ in range(11):
                told = ("times", told, NOUGHT)
            self.check(told, True)
            self.check(("times", told, NOUGHT), False)

    def test_a_power_is_one_deep_more(self):
        self.check(("power", chain(11), 2), True)
        self.check(("power", chain(12), 2), False)

    def test_deep_beyond_all_bounds(self):
        for kind, way in PLACES:
            self.check(chain(5000, kind, way), False)
        told = ()
        for _ in range(5000):
            told = (told,)
        self.check(told, False)

    def test_many(self):
        for count in (3, 4, 5, 50, 98, 99, 100):
            told = many(count)
            self.assertEqual(len(list(walk(told))), count)
            self.check(told, True)
        for count in (101, 102, 103, 200):
            told = many(count)
            self.assertEqual(len(list(walk(told))), count)
            self.check(told, False)

    def test_one_that_stands_often_counts_as_often(self):
        part = many(49)
        self.check(("plus", part, part), True)
        self.check(("power", ("plus", part, part), 1), True)
        self.check(("plus", ("power", part, 1), ("power", part, 1)), False)
        part = many(24)
        self.check(("less", part, part, part, part), True)
        part = many(25)
        self.check(("less", part, part, part, part), False)

    def test_the_same_doubled_again_and_again(self):
        told = PLAIN
        for doubled in range(1, 200):
            told = ("plus", told, told)
            self.check(told, doubled <= 5)
        told = ("bad",)
        for _ in range(200):
            told = ("less", told, told, told, told)
            self.check(told, False)

    def test_one_that_holds_itself(self):
        held = []
        held.append(("plus", PLAIN, held))
        self.check(held[0], False)
        self.check(("times", PLAIN, held[0]), False)


class Powers(IsReckoningTest):
    def test_within_one_and_two(self):
        two = ("power", ("power", inp("a"), 2), 2)
        self.check(two, True)
        self.check(("power", two, 2), False)

    def test_with_other_parts_between(self):
        for kind, way in PLACES[1:]:
            one = placed(kind, ("power", inp("a"), 2), way)
            two = placed(kind, ("power", one, -1), way)
            self.check(two, True)
            self.check(("power", one, 0), True)
            self.check(("power", two, 0), False)
            self.check(placed("minus", ("power", placed("minus", two), 1), 1), False)

    def test_beside_one_another(self):
        two = ("power", ("power", inp("a"), 2), 2)
        self.check(("less", two, two, two, two), True)
        self.check(("power", ("times", ("power", PLAIN, 1), ("power", PLAIN, 1)), 3), True)
        self.check(("power", ("times", PLAIN, two), 3), False)

    def test_whatever_n_is(self):
        for n in (-4, 0, 1, 4):
            self.check(("power", ("power", ("power", PLAIN, n), n), n), False)


class FaultsByChance(unittest.TestCase):
    """A fault at one place of a reckoning that is made by chance."""

    def test_many(self):
        chance = random.Random(55)
        for _ in range(1500):
            told = chance_reckoning(chance, chance.randrange(1, 6))
            if len(list(walk(told))) <= 100:
                fault = chance.choice(NONE + FAULTY)
                self.assertIs(is_reckoning(self.changed(chance, told, fault)), False)

    def changed(self, chance, told, fault):
        ways = [at for at in range(1, len(told)) if told[0] not in ("is", "input", "nought") and
                isinstance(told[at], tuple)]
        if not ways or chance.randrange(4) == 0:
            return fault
        at = chance.choice(ways)
        return told[:at] + (self.changed(chance, told[at], fault),) + told[at + 1:]


class Inputs(unittest.TestCase):
    def check(self, reckoning, awaited):
        told = inputs(reckoning)
        self.assertEqual(told, awaited)
        self.assertIs(type(told), list)

    def test_none(self):
        self.check(METRE, [])
        self.check(NOUGHT, [])
        self.check(("less", METRE, NOUGHT, PLAIN, ("power", NOUGHT, 2)), [])

    def test_one(self):
        self.check(inp("abcdefgh"), ["abcdefgh"])

    def test_at_each_place(self):
        for kind, way in PLACES:
            self.check(placed(kind, inp("b"), way), ["b"])
            self.check(placed("minus", placed(kind, inp("b"), way), 1), ["b"])

    def test_rising_as_texts_do(self):
        self.check(("less", inp("c"), inp("b"), inp("ab"), inp("a")), ["a", "ab", "b", "c"])
        self.check(("plus", inp("z"), ("times", inp("zz"), inp("aa"))), ["aa", "z", "zz"])

    def test_one_that_stands_often(self):
        self.check(("plus", inp("a"), inp("a")), ["a"])
        self.check(("less", inp("b"), ("power", inp("a"), 2), inp("b"), inp("a")), ["a", "b"])

    def test_bases_of_like_names(self):
        self.check(METRE, [])
        self.check(("plus", METRE, inp("m")), ["m"])
        self.check(("plus", METRE, inp("s")), ["s"])

    def test_names_like_the_first_texts(self):
        self.check(("plus", inp("nought"), inp("input")), ["input", "nought"])
        self.assertEqual(noughts(("plus", inp("nought"), number(1, 1, (("nought", 1),)))), 0)

    def test_many(self):
        chance = random.Random(6)
        for _ in range(400):
            told = chance_reckoning(chance, 6)
            self.check(told, sorted({part[1] for part in walk(told) if part[0] == "input"}))
            self.assertEqual(noughts(told), sum(part[0] == "nought" for part in walk(told)))

    def test_the_list_is_the_askers_own(self):
        told = ("plus", inp("a"), inp("b"))
        first = inputs(told)
        first.append("c")
        self.check(told, ["a", "b"])

    def test_beyond_the_limits(self):
        self.check(("plus", inp("abcdefghi"), chain(40, "less", 3)), ["abcdefghi"])


class Noughts(unittest.TestCase):
    def check(self, reckoning, awaited):
        told = noughts(reckoning)
        self.assertEqual(told, awaited)
        self.assertIs(type(told), int)

    def test_none(self):
        for form in FORMS:
            if form != NOUGHT:
                self.check(form, 0)

    def test_the_number_nought_is_none(self):
        self.check(("plus", number(0), number(0, 1, (("m", 1),))), 0)

    def test_at_each_place(self):
        self.check(NOUGHT, 1)
        for kind, way in PLACES:
            self.check(placed(kind, NOUGHT, way), 1)
            self.check(placed("less", placed(kind, NOUGHT, way), 2), 1)

    def test_as_often_as_they_stand(self):
        self.check(("plus", NOUGHT, NOUGHT), 2)
        two = ("times", NOUGHT, ("power", NOUGHT, 2))
        self.check(("less", two, two, NOUGHT, two), 7)

    def test_beyond_the_limits(self):
        self.check(("power", ("less", *[many(200)] * 3, ("minus", NOUGHT, NOUGHT)), 9), 2)


class LeftAlone(unittest.TestCase):
    def test_nothing_handed_in_is_changed(self):
        for thing in (["plus", [PLAIN], {"a": [1]}], ("plus", [PLAIN], {"a": [1]}), {"is": [1]}):
            ahead = copy.deepcopy(thing)
            self.assertIs(is_reckoning(thing), False)
            self.assertEqual(thing, ahead)

    def test_things_that_do_not_let_themselves_be_compared(self):
        for thing in (Stubborn(), (Stubborn(),), (Stubborn(), PLAIN, PLAIN), ("is", Stubborn(), ()),
                      ("is", (Stubborn(), 1), ()), ("is", (1, Stubborn()), ()), ("is", ONE, Stubborn()),
                      ("is", ONE, (Stubborn(),)), ("is", ONE, ((Stubborn(), 1),)), ("is", ONE, (("m", Stubborn()),)),
                      ("input", Stubborn()), ("power", PLAIN, Stubborn()), ("plus", PLAIN, Stubborn())):
            self.assertIs(is_reckoning(thing), False)


class Stubborn:
    __hash__ = None

    def refuse(self, *_):
        raise RuntimeError("not to be asked")

    __eq__ = __ne__ = __lt__ = __le__ = __gt__ = __ge__ = __len__ = __iter__ = __getitem__ = __bool__ = refuse


if __name__ == "__main__":
    unittest.main()
