"""Points 8, 9 and 10: letters that tell, and what of point 1 concerns them."""

import random
from itertools import combinations

from lostplates import telling
from lostplates.errors import InvalidLog, InvalidNumber, InvalidOrder, NoOrder, TooMany
from lostplates.houses import House
from lostplates.ordering import order_count
from lostplates.telling import fewest_at_once, fewest_doors, fewest_letters, kinds, next_letter, parting_letter
from tests.example_runner import outcome
from tests.samples import (
    NO_ORDERS, PlateTest, every_letter, every_order, fitting, house_of, sample_houses, sample_log, told_answer,
    told_possible,
)

EXAMPLE_TELLING = """
>>> from lostplates.houses import House
>>> from lostplates.telling import fewest_at_once, fewest_doors, fewest_letters, kinds, next_letter, parting_letter
>>> house = House(("ann", "bob", "eve"), ("", "", ""), {"ann": "back", "bob": "keep", "eve": "back"})
>>> told = [[len(kind) for kind in kinds(house)], parting_letter(house, (0, 1, 2), (1, 0, 2)), next_letter(house, [])]
>>> [told, fewest_letters(house, []), fewest_at_once(house, [], 2), fewest_doors(house, [])]
[[[1, 1, 1, 1, 1, 1], ('bob', 0), ('ann', 0)], 3, None, (0, 1)]
"""

IMPOSSIBLE = [("ann", 0, 0), ("ann", 0, None)]
WRONG = [("ann", 0, 0), ("ann", 0, 7), ("cat", 0, 0)]


def trio():
    return house_of(("ann", "bob"), ("", "", ""))


def keepers():
    return house_of(("ann", "bob"), ("", "", ""), "keep")


def unlivable():
    return house_of(("ann", "bob"), ("c..", "", ""))


def told_answers(house, order):
    return tuple(told_answer(house, order, name, box) for name, box in every_letter(house))


def told_kinds(house, some):
    """Each order beside all orders that are alike with it, the first order of each kind kept."""
    rows = {order: told_answers(house, order) for order in some}
    found = [[other for other in some if rows[other] == rows[order]] for order in some]
    return [kind for order, kind in zip(some, found) if kind[0] == order]


def parts(house, some, letters):
    """Some orders, parted by the answers of letters."""
    found = {}
    for order in some:
        found.setdefault(tuple(told_answer(house, order, *letter) for letter in letters), []).append(order)
    return list(found.values())


def told_fewest(house, some, known):
    """What point 9 says of how many letters are needed; no shorter way is taken than to try all of them."""
    if len(told_kinds(house, some)) == 1:
        return 0
    if tuple(some) not in known:
        tries = [parts(house, some, [letter]) for letter in every_letter(house)]
        tries = [rows for rows in tries if len(rows) > 1]
        known[tuple(some)] = 1 + min(max(told_fewest(house, row, known) for row in rows) for rows in tries)
    return known[tuple(some)]


def told_at_once(house, some, most):
    for many in range(most + 1):
        for letters in combinations(every_letter(house), many):
            if all(len(told_kinds(house, row)) == 1 for row in parts(house, some, letters)):
                return letters
    return None


def told_doors(house, some):
    for many in range(len(house) + 1):
        for boxes in combinations(range(len(house)), many):
            seen = [tuple(dict(zip(order, house.names)).get(box) for box in boxes) for order in some]
            if all(seen.count(row) == 1 for row in seen):
                return boxes


def samples(seed, many):
    """Houses with logs and the orders that are possible by them, some at least."""
    rng = random.Random(seed)
    found = [(house, sample_log(rng, house, rng.randint(0, 2))) for house in sample_houses(many, seed)]
    rows = [(house, log, told_possible(house, log)) for house, log in found]
    return [row for row in rows if row[2]]


class ExamplesTest(PlateTest):
    def test_examples(self):
        got, wanted = outcome(EXAMPLE_TELLING)
        self.assertEqual(got, wanted)

    def test_interface_is_defined_in_the_file(self):
        names = ("kinds", "parting_letter", "next_letter", "fewest_letters", "fewest_at_once", "fewest_doors")
        self.check_defined(telling, *names)


class KindsTest(PlateTest):
    def test_each_order_for_itself(self):
        self.check([[order] for order in fitting(trio())], kinds, trio())

    def test_all_orders_alike(self):
        self.check([fitting(keepers())], kinds, keepers())
        self.check([[(0,), (1,)]], kinds, house_of(("ann",), ("", "")))

    def test_kinds_in_the_order_of_their_first_ones(self):
        house = House(("ann", "bob"), ("",) * 3, {"ann": "back", "bob": "keep"})
        self.check([[(0, 1), (0, 2)], [(1, 0), (1, 2)], [(2, 0), (2, 1)]], kinds, house)
        house = House(("ann", "bob"), ("",) * 3, {"ann": "keep", "bob": "back"})
        self.check([[(0, 1), (2, 1)], [(0, 2), (1, 2)], [(1, 0), (2, 0)]], kinds, house)

    def test_only_orders_that_fit(self):
        self.check([], kinds, unlivable())
        self.check([[(1, 0), (2, 0)]], kinds, house_of(("ann", "bob"), ("b..", "", ""), "keep"))

    def test_against_the_words_of_the_document(self):
        for house in sample_houses(60, 12):
            self.check(told_kinds(house, fitting(house)), kinds, house)


class PartingLetterTest(PlateTest):
    def test_the_first_letter(self):
        self.check(("ann", 0), parting_letter, trio(), (0, 1), (1, 0))
        self.check(("ann", 1), parting_letter, trio(), (0, 1), (0, 2))
        house = House(("ann", "bob"), ("",) * 3, {"ann": "back", "bob": "keep"})
        self.check(("bob", 0), parting_letter, house, (0, 1), (1, 0))

    def test_none(self):
        self.check(None, parting_letter, trio(), (0, 1), (0, 1))
        for one in fitting(keepers()):
            for other in fitting(keepers()):
                self.check(None, parting_letter, keepers(), one, other)

    def test_orders_that_do_not_fit(self):
        house = house_of(("ann", "bob"), ("b..", "", ""))
        self.check(("ann", 0), parting_letter, house, (0, 1), (1, 0))
        self.check(("ann", 1), parting_letter, unlivable(), (0, 2), (0, 1))

    def test_no_order(self):
        for order in NO_ORDERS:
            self.check_error(InvalidOrder, parting_letter, trio(), order, (0, 1))
            self.check_error(InvalidOrder, parting_letter, trio(), (0, 1), order)

    def test_against_the_words_of_the_document(self):
        for house in sample_houses(40, 13, most_names=3, most_boxes=4):
            for one in every_order(house)[::2]:
                for other in every_order(house)[::3]:
                    pairs = zip(every_letter(house), told_answers(house, one), told_answers(house, other))
                    wanted = next((letter for letter, told, another in pairs if told != another), None)
                    self.assertEqual(parting_letter(house, one, other), wanted)


class NextLetterTest(PlateTest):
    def test_the_first_of_several(self):
        self.check(("ann", 0), next_letter, trio(), [])
        self.check(("ann", 0), next_letter, keepers(), [])
        self.check(("ann", 0), next_letter, trio(), [("ann", 0, 0), ("bob", 2, 0)])

    def test_the_fewest_in_the_worst_case(self):
        self.check(("bob", 1), next_letter, trio(), [("ann", 0, 0)])
        house = House(("ann", "bob"), ("",) * 3, {"ann": "back", "bob": "keep"})
        self.check(("bob", 0), next_letter, house, [])

    def test_orders_are_counted_not_kinds(self):
        house = House(("ann", "bob", "eve"), ("a..", "", "", "", ""), {"ann": "keep", "bob": "keep", "eve": "back"})
        wanted = min(every_letter(house), key=lambda letter: max(map(len, parts(house, fitting(house), [letter]))))
        self.check(wanted, next_letter, house, [])

    def test_errors(self):
        self.check_error(InvalidLog, next_letter, trio(), WRONG, index=1)
        self.check_error(InvalidLog, next_letter, unlivable(), WRONG, index=1)
        self.check_error(NoOrder, next_letter, trio(), IMPOSSIBLE)
        self.check_error(NoOrder, next_letter, unlivable(), [])

    def test_against_the_words_of_the_document(self):
        found = {}
        for house, log, left in samples(14, 80):
            rows = [(max(map(len, parts(house, left, [letter]))), letter) for letter in every_letter(house)]
            self.check(min(rows)[1], next_letter, house, log)
            found[every_letter(house).index(min(rows)[1])] = True
        self.assertGreater(len(found), 5)


class FewestLettersTest(PlateTest):
    def test_none_is_needed(self):
        self.check(0, fewest_letters, keepers(), [])
        self.check(0, fewest_letters, house_of(("ann",), ("",)), [])
        self.check(0, fewest_letters, trio(), [("ann", 0, 0), ("bob", 2, 0)])

    def test_one_and_more(self):
        self.check(1, fewest_letters, house_of(("ann", "bob"), ("", "")), [])
        self.check(1, fewest_letters, trio(), [("ann", 0, 0)])
        self.check(2, fewest_letters, trio(), [("ann", 0, None)])
        self.check(3, fewest_letters, trio(), [])

    def test_24_orders(self):
        house = house_of(("a", "b", "c", "d"), ("",) * 4)
        self.assertEqual(order_count(house), 24)
        self.check(6, fewest_letters, house, [])
        self.check(5, fewest_letters, house_of(("a", "b", "c"), ("",) * 4), [])
        self.check(0, fewest_letters, house_of(("a", "b", "c", "d"), ("",) * 4, "keep"), [])
        six = House(tuple("abcdef"), ("a", "b", "", "", "", ""), {name: "back" for name in "abcdef"})
        self.assertEqual(order_count(six), 24)
        self.check(6, fewest_letters, six, [])

    def test_too_many(self):
        for house in (house_of(tuple("abcde"), ("",) * 5), house_of(("a", "b"), ("",) * 6, "keep")):
            self.check_error(TooMany, fewest_letters, house, [])
        self.assertEqual(len(told_possible(house_of(("a", "b"), ("",) * 6), [("a", 0, None)])), 25)
        self.check_error(TooMany, fewest_letters, house_of(("a", "b"), ("",) * 6), [("a", 0, None)])
        # Those that are possible count, not those that fit.
        log = [("a", 0, 0), ("a", 1, 0)]
        self.check_error(TooMany, fewest_letters, house_of(tuple("abcde"), ("",) * 5), log)
        self.check(6, fewest_letters, house_of(tuple("abcde"), ("",) * 5), log + [("a", 2, 0), ("a", 3, 0)])

    def test_the_first_error_counts(self):
        self.check_error(InvalidLog, fewest_letters, house_of(("ann", "b"), ("",) * 6), WRONG, index=1)
        self.check_error(InvalidLog, fewest_letters, unlivable(), WRONG, index=1)
        self.check_error(NoOrder, fewest_letters, house_of(("ann", "b"), ("",) * 6), IMPOSSIBLE)
        self.check_error(NoOrder, fewest_letters, unlivable(), [])

    def test_against_the_words_of_the_document(self):
        found = {}
        for house, log, left in samples(15, 120):
            if len(left) <= 12:
                wanted = told_fewest(house, left, {})
                self.check(wanted, fewest_letters, house, log)
                found[wanted] = True
        self.assertLessEqual({0, 1, 2, 3}, set(found))


class FewestAtOnceTest(PlateTest):
    def test_no_letter_is_needed(self):
        for most in range(4):
            self.check((), fewest_at_once, keepers(), [], most)
            self.check((), fewest_at_once, trio(), [("ann", 0, 0), ("bob", 2, 0)], most)

    def test_one_letter(self):
        for most in (1, 2, 3):
            self.check((("bob", 1),), fewest_at_once, trio(), [("ann", 0, 0)], most)
        self.check((("ann", 0),), fewest_at_once, house_of(("ann", "bob"), ("", "")), [], 3)

    def test_several_letters(self):
        for most in (2, 3):
            self.check((("ann", 1), ("bob", 0)), fewest_at_once, trio(), [("ann", 0, None)], most)
        house = House(("ann", "bob"), ("",) * 3, {"ann": "back", "bob": (1, 0)})
        self.check((("ann", 1), ("bob", 0), ("bob", 1)), fewest_at_once, house, [], 3)
        self.check(None, fewest_at_once, house, [], 2)

    def test_so_many_are_not_enough(self):
        self.check(None, fewest_at_once, trio(), [("ann", 0, 0)], 0)
        self.check(None, fewest_at_once, trio(), [], 0)
        self.check(None, fewest_at_once, trio(), [], 2)
        self.check(None, fewest_at_once, house_of(tuple("abcdef"), ("",) * 6), [], 3)

    def test_invalid_number(self):
        for most in (-1, 4, 10, True, False, None):
            self.check_error(InvalidNumber, fewest_at_once, trio(), [], most)

    def test_the_first_error_counts(self):
        self.check_error(InvalidLog, fewest_at_once, unlivable(), WRONG, 4, index=1)
        self.check_error(InvalidNumber, fewest_at_once, unlivable(), [], 4)
        self.check_error(InvalidNumber, fewest_at_once, trio(), IMPOSSIBLE, -1)
        self.check_error(NoOrder, fewest_at_once, trio(), IMPOSSIBLE, 0)
        self.check_error(NoOrder, fewest_at_once, unlivable(), [], 3)

    def test_against_the_words_of_the_document(self):
        found = {}
        for house, log, left in samples(16, 90):
            if len(left) <= 12:
                for most in range(4) if len(every_letter(house)) <= 12 else range(3):
                    wanted = told_at_once(house, left, most)
                    self.check(wanted, fewest_at_once, house, log, most)
                    found[wanted and len(wanted)] = True
        self.assertEqual(set(found), {None, (), 1, 2, 3})


class FewestDoorsTest(PlateTest):
    def test_no_box_is_needed(self):
        self.check((), fewest_doors, trio(), [("ann", 0, 0), ("bob", 2, 0)])
        self.check((), fewest_doors, house_of(("ann",), ("", "a..")), [])

    def test_one_box(self):
        self.check((0,), fewest_doors, house_of(("ann",), ("", "")), [])
        self.check((1,), fewest_doors, trio(), [("ann", 0, 0)])
        self.check((1,), fewest_doors, house_of(("ann", "bob"), ("b..", "", "")), [])

    def test_several_boxes(self):
        self.check((0, 1), fewest_doors, trio(), [])
        self.check((0, 1, 2, 3, 4), fewest_doors, house_of(tuple("abcdef"), ("",) * 6), [])
        self.check((0, 1, 2, 3, 4), fewest_doors, house_of(tuple("abcde"), ("",) * 6), [])
        self.check((0, 1, 2, 3, 4), fewest_doors, house_of(("a",), ("",) * 6), [])

    def test_orders_that_are_alike_are_told_apart_too(self):
        self.check((0, 1), fewest_doors, keepers(), [])
        self.check((1, 2), fewest_doors, house_of(("ann", "bob", "eve"), ("a..", "", "", ""), "keep"), [])

    def test_errors(self):
        self.check_error(InvalidLog, fewest_doors, trio(), WRONG, index=1)
        self.check_error(InvalidLog, fewest_doors, unlivable(), WRONG, index=1)
        self.check_error(NoOrder, fewest_doors, trio(), IMPOSSIBLE)
        self.check_error(NoOrder, fewest_doors, unlivable(), [])

    def test_against_the_words_of_the_document(self):
        found = {}
        for house, log, left in samples(17, 120):
            wanted = told_doors(house, left)
            self.check(wanted, fewest_doors, house, log)
            found[wanted] = True
        self.assertGreater(len(found), 8)
