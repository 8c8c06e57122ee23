"""Households that learn by the letters that they handed on, round after round."""

from lostplates.checks import check_number, check_order, is_letter
from lostplates.errors import InvalidLetters
from lostplates.houses import House
from lostplates.letters import way_of

MOST_LETTERS = 12
MOST_ROUNDS = 10 ** 18


def check_letters(house, letters):
    for index, letter in enumerate(letters):
        if index >= MOST_LETTERS or not is_letter(house, letter):
            raise InvalidLetters(index)


def with_guess(house, order, name, box, passed):
    """A house in which the households behind some boxes have a box, or None, as their guess for a name."""
    at = house.names.index(name)
    manners = house.manners
    for here in passed:
        who = house.names[order.index(here)]
        guess = manners[who]
        manners[who] = guess[:at] + (box,) + guess[at + 1:]
    return House(house.names, house.plates, manners)


def put(house, order, letter):
    """Put a letter: the house behind it, what became of it, and how often it was handed on."""
    name, box = letter
    boxes, word = way_of(house, order, name, box)
    passed = boxes[:-1]
    if word == "kept":
        house = with_guess(house, order, name, boxes[-1], passed)
    elif word == "back":
        house = with_guess(house, order, name, None, passed)
    return house, word, len(passed)


def put_all(house, order, letters):
    """Put letters one after another: the house behind them, all words, and how often they were handed on."""
    words = ()
    handed = 0
    for letter in letters:
        house, word, times = put(house, order, letter)
        words = words + (word,)
        handed = handed + times
    return house, words, handed


def rounds_until_settled(house, order, letters):
    """What `put_all` returns for each round, up to the first one that does not change the house."""
    # There always is such a round: with the box that it learned, a household hands letters to where they are kept,
    # and with None, it hands none on. So no guess for a name changes twice.
    rounds = []
    changes = True
    while changes:
        told = put_all(house, order, letters)
        changes = told[0] != house
        rounds.append(told)
        house = told[0]
    return rounds


def kept_in(words):
    return len([word for word in words if word == "kept"])


def taught(house, order, letters):
    """The house behind letters by which households learn, and what became of each letter."""
    check_order(house, order)
    check_letters(house, letters)
    return put_all(house, order, letters)[:2]


def taught_far(house, order, letters, count):
    """The house behind so many rounds, and how often letters were kept and handed on in them."""
    check_order(house, order)
    check_letters(house, letters)
    check_number(count, 0, MOST_ROUNDS)
    kept = 0
    handed = 0
    rounds = rounds_until_settled(house, order, letters)
    for later, words, times in rounds[:count]:
        house = later
        kept = kept + kept_in(words)
        handed = handed + times
    # All rounds behind the last one are like it.
    more = max(0, count - len(rounds))
    return house, kept + more * kept_in(rounds[-1][1]), handed + more * rounds[-1][2]


def settled_after(house, order, letters):
    """The least number of rounds behind which no round changes the house any more."""
    check_order(house, order)
    check_letters(house, letters)
    return len(rounds_until_settled(house, order, letters)) - 1


def first_kept(house, order, letters, index):
    """The first round in which the letter with this index is kept, or None."""
    check_order(house, order)
    check_letters(house, letters)
    check_number(index, 0, len(letters) - 1)
    for at, told in enumerate(rounds_until_settled(house, order, letters)):
        if told[1][index] == "kept":
            return at
    return None
