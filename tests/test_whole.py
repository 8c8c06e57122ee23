"""The whole document: the interface, and that what one module tells agrees with what another tells of the same."""

import importlib
import inspect
import random

from lostplates.bags import best_delivery, sure_delivery
from lostplates.codec import decode_house, encode_house
from lostplates.halls import Hall, Trial
from lostplates.learning import taught
from lostplates.letters import answer, way
from lostplates.logs import fate, possible
from lostplates.manners import surely_kept
from lostplates.moving import orders_then
from lostplates.notation import format_house, parse_house
from lostplates.ordering import fits, orders
from lostplates.postmen import held_possible, in_common, spoken
from lostplates.scripts import run_script
from lostplates.tables import doors, table
from lostplates.telling import kinds
from lostplates.trying import tried
from lostplates.watches import Watch
from tests.samples import (
    PlateTest, every_letter, every_order, fitting, sample_houses, sample_log, shown, told_answer, told_possible,
)

INTERFACE = {
    "ordering": "orders(house) order_count(house) could_live(house) fits(house,order)",
    "letters": "way(house,order,name,box) answer(house,order,name,box) answers(house,name,box) longest(house)",
    "logs": "possible(house,log) surely_behind(house,log) surely_free(house,log) first_wrong(house,log)"
            " fate(house,log,index) chance(house,log,name,box)",
    "telling": "kinds(house) parting_letter(house,one,other) next_letter(house,log) fewest_letters(house,log)"
               " fewest_at_once(house,log,most) fewest_doors(house,log)",
    "hints": "hinted(house,hints) needless(house,hints) least_hints(house,hints) quarrel(house,hints)",
    "trying": "tried(house,order,name,row) best_row(house,log,name)",
    "manners": "possible_manners(house,log,name,choices) kept_by_hand(house,name) trusty(house,order)"
               " best_informed(house) surely_kept(house,name) never_lost(house)",
    "moving": "orders_then(house,events) orders_first(house,events) story_count(house,events)"
              " has_moved(house,events,name) fewest_moves(house,log,most)",
    "learning": "taught(house,order,letters) taught_far(house,order,letters,count) settled_after(house,order,letters)"
                " first_kept(house,order,letters,index)",
    "bags": "best_delivery(house,order,bag,most) sure_delivery(house,log,bag,most)",
    "postmen": "held_possible(house,order,rows,index) in_common(house,order,rows) spoken(house,order,rows)",
    "tables": "table(house,order) doors(house,order)",
    "notation": "format_house(house) parse_house(text)",
    "codec": "encode_house(house) decode_house(values)",
    "scripts": "run_script(house,order,text)",
}
CLASSES = {
    ("houses", "House"): "__init__(self,names,plates,manners) __len__(self) __eq__(self,other)",
    ("halls", "Hall"): "__init__(self,house,order) post(self,name,box) swap(self,name,other) teach(self,yes)"
                       " keep_as(self,name) undo(self) redo(self) shift(self,name,box) fetch(self,name)"
                       " apply_all(self,operations) tried_out(self,operations,keep)",
    ("halls", "Trial"): "__init__(self,hall) hold(self)",
    ("watches", "Watch"): "__init__(self,house,log,name,box) came(self,box) ended(self,word) next_boxes(self)"
                          " words(self)",
}
PROPERTIES = {
    ("houses", "House"): "names plates manners",
    ("halls", "Hall"): "house_now living teaches posted kept_under history",
    ("watches", "Watch"): "orders_left seen_boxes told_word",
}


def samples(seed, many):
    """Houses, each with an order, some letters, and something to choose with."""
    rng = random.Random(seed)
    for house in sample_houses(many, seed):
        yield rng, house, rng.choice(every_order(house)), tuple(rng.choices(every_letter(house), k=rng.randint(0, 6)))


class InterfaceTest(PlateTest):
    def check_parameters(self, function, wanted):
        self.assertEqual(f"{function.__name__}({','.join(inspect.signature(function).parameters)})", wanted)

    def test_functions(self):
        for name, functions in INTERFACE.items():
            module = importlib.import_module("lostplates." + name)
            for wanted in functions.split():
                function = getattr(module, wanted.split("(")[0])
                self.check_parameters(function, wanted)
                self.assertEqual(function.__module__, module.__name__)

    def test_classes(self):
        for (name, word), methods in CLASSES.items():
            cls = getattr(importlib.import_module("lostplates." + name), word)
            self.assertEqual(cls.__module__, "lostplates." + name)
            for wanted in methods.split():
                self.check_parameters(cls.__dict__[wanted.split("(")[0]], wanted)
        self.check_parameters(Hall.replay, "replay(house,order,operations)")
        self.assertIsInstance(Hall.__dict__["replay"], classmethod)

    def test_properties(self):
        for (name, word), properties in PROPERTIES.items():
            cls = getattr(importlib.import_module("lostplates." + name), word)
            for wanted in properties.split():
                self.assertIsInstance(cls.__dict__[wanted], property)

    def test_orders_is_a_generator(self):
        self.assertTrue(inspect.isgeneratorfunction(orders))


class HallsTest(PlateTest):
    def test_letters_of_a_hall_and_their_ways(self):
        for _, house, order, letters in samples(61, 100):
            hall = Hall(house, order)
            for name, box in letters:
                self.assertEqual(hall.post(name, box), answer(house, order, name, box))
                self.assertEqual(hall.posted[-1], (name, box, way(house, order, name, box)[1]))

    def test_a_hall_that_teaches(self):
        for _, house, order, letters in samples(62, 150):
            hall = Hall(house, order)
            hall.teach(True)
            for name, box in letters:
                wanted = answer(hall.house_now, order, name, box)
                self.assertEqual(hall.post(name, box), wanted)
            later, words = taught(house, order, letters)
            self.assertEqual(shown(hall.house_now), shown(later))
            self.assertEqual(tuple(word for _, _, word in hall.posted), words)

    def test_the_house_of_a_hall_as_text_and_as_code(self):
        for _, house, order, letters in samples(63, 100):
            hall = Hall.replay(house, order, [("teach", True)] + [("post",) + letter for letter in letters])
            now = hall.house_now
            self.assertEqual(shown(parse_house(format_house(now))), shown(now))
            self.assertEqual(shown(decode_house(encode_house(now))), shown(now))
            self.assertEqual(format_house(now) == format_house(house), now == house)
            self.assertEqual(encode_house(now) == encode_house(house), now == house)

    def test_moves_of_a_hall_and_events(self):
        for rng, house, _, _ in samples(64, 100):
            for order in fitting(house)[:3]:
                hall, events = Hall(house, order), []
                for _ in range(4):
                    name, other = rng.choice(house.names), rng.choice(house.names)
                    free = [box for box in range(len(house)) if box not in hall.living]
                    if name != other:
                        self.assertEqual(hall.swap(name, other), fits(house, hall.living))
                        events.append(("swap", name, other))
                    elif free:
                        hall.shift(name, rng.choice(free))
                        events.append(("move", name))
                self.assertIn(hall.living, orders_then(house, events))

    def test_scripts_and_operations(self):
        for rng, house, order, letters in samples(65, 100):
            operations = [("teach", True)] + [("post",) + letter for letter in letters]
            if len(house.names) > 1:
                operations.insert(rng.randint(0, len(operations)), ("swap",) + house.names[:2])
            text = "\n".join(" ".join(str(word) for word in row) for row in operations).replace("True", "yes")
            hall, output = run_script(house, order, text)
            again = Hall.replay(house, order, operations)
            self.assertEqual(shown(hall.history), shown(operations))
            for name in PROPERTIES["halls", "Hall"].split():
                self.assertEqual(shown(getattr(hall, name)), shown(getattr(again, name)))
            self.assertEqual(len(output), len(letters))

    def test_a_trial_of_letters(self):
        for _, house, order, letters in samples(66, 50):
            hall = Hall(house, order)
            operations = [("post",) + letter for letter in letters]
            with Trial(hall):
                results = hall.apply_all(operations)
            self.assertEqual(results, [answer(house, order, *letter) for letter in letters])
            self.assertEqual(hall.tried_out(operations, False), results)
            self.assertEqual(hall.history, [])


class LettersTest(PlateTest):
    def test_tables_and_ways(self):
        for _, house, order, _ in samples(67, 100):
            signs = [row.split(" ") for row in table(house, order).split("\n")]
            for row, name in zip(signs, house.names):
                self.assertEqual(row[0], name)
                for box, sign in enumerate(row[1:]):
                    boxes, word = way(house, order, name, box)
                    self.assertEqual(sign == "o", (boxes, word) == ((box,), "kept"))
                    self.assertEqual({"o": "kept", "k": "kept", "-": "lies", "<": "back", "@": "round"}[sign], word)
                    self.assertEqual(tried(house, order, name, (box,)), (word, 1))

    def test_tables_and_surely_kept(self):
        for _, house, _, _ in samples(68, 60):
            tables = [table(house, order).split("\n") for order in orders(house)]
            for at, name in enumerate(house.names):
                kept = [box for box in range(len(house)) if all(row[at].split()[1 + box] in "ok" for row in tables)]
                self.assertEqual(surely_kept(house, name), kept)

    def test_doors_and_orders(self):
        for _, house, order, _ in samples(69, 100):
            rows = [row.split(" ") for row in doors(house, order).split("\n")]
            behind = [row[2] for row in rows]
            self.assertEqual(tuple(behind.index(name) for name in house.names), order)
            self.assertEqual([row[1] for row in rows], format_house(house).split("\n")[0].split(" ")[1:])

    def test_deliveries_and_ways(self):
        for rng, house, order, _ in samples(70, 150):
            bag = tuple(rng.choices(house.names, k=rng.randint(1, 6)))
            found = best_delivery(house, order, bag, 6)
            ways = [way(house, order, name, box) for name, box in zip(bag, found[1])]
            # With room for all, each letter is put in the box of its own household.
            self.assertEqual(found, (0, tuple(order[house.names.index(name)] for name in bag)))
            self.assertEqual({word for _, word in ways}, {"kept"})
            if fitting(house):
                sure = sure_delivery(house, [], bag, 6)
                self.assertEqual(sure is None, any(not surely_kept(house, name) for name in bag))


class OrdersTest(PlateTest):
    def test_watches_and_possible_orders(self):
        for rng, house, order, _ in samples(71, 100):
            log = sample_log(rng, house, rng.randint(0, 2))
            some = possible(house, log)
            if some:
                name, box = rng.choice(every_letter(house))
                order = rng.choice(some)
                watch = Watch(house, log, name, box)
                self.assertEqual(watch.orders_left, tuple(some))
                told = log + [(name, box, answer(house, order, name, box))]
                self.assertLessEqual(set(fate(house, told, len(log))), set(watch.words()))
                boxes, word = way(house, order, name, box)
                for other in boxes[1:]:
                    self.assertIn(other, watch.next_boxes())
                    watch.came(other)
                left = [one for one in some if way(house, one, name, box) == (boxes, word)]
                self.assertEqual(watch.ended(word), len(left))
                self.assertEqual(watch.orders_left, tuple(left))
                self.assertLessEqual(set(left), set(possible(house, told)))

    def test_postmen_and_logs(self):
        for rng, house, _, letters in samples(72, 60):
            for order in fitting(house)[:2]:
                log = [letter + (answer(house, order, *letter),) for letter in letters]
                rows = (letters, letters[:1])
                self.assertEqual(held_possible(house, order, rows, 0), possible(house, log))
                self.assertEqual(held_possible(house, order, rows, 1), possible(house, log[:1]))
                # The second one tells no more apart than the first one.
                self.assertEqual(in_common(house, order, rows), possible(house, log[:1]))
                knows = tuple(len(possible(house, told)) == 1 for told in (log, log[:1]))
                self.assertEqual(spoken(house, order, rows)[1][0], knows)

    def test_a_postman_with_all_letters_and_kinds(self):
        for _, house, _, _ in samples(73, 40):
            rows = (tuple(every_letter(house)),)
            for kind in kinds(house):
                self.assertEqual(in_common(house, kind[-1], rows), kind)
                self.assertEqual(spoken(house, kind[0], rows)[1][0], (len(kind) == 1,))

    def test_logs_of_letters_put_in_a_hall(self):
        for rng, house, _, letters in samples(74, 60):
            for order in fitting(house)[:2]:
                hall = Hall(house, order)
                log = [letter + (hall.post(*letter),) for letter in letters]
                self.assertIn(order, possible(house, log))
                self.assertEqual(possible(house, log), told_possible(house, log))
                for index, (name, box, word) in enumerate(hall.posted):
                    self.assertIn(word, fate(house, log, index))
                    self.assertEqual(log[index][2], told_answer(house, order, name, box))
