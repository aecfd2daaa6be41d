"""The program's interface: a list of calls in, a list of answers out."""

from flourblend.bakery import Bakery
from flourblend.codes import NO_INSTANCE

CREATE = 0
ADD_BIN = 1
ADD_FLOUR = 2
SET_PRICE = 3
EMPTY_BIN = 4
SET_REQUEST = 5
CHEAPEST_BLEND = 6
MAKE_CHEAPEST_BLEND = 7
MAKE_BLEND = 8
CHECK_BLEND = 9
COUNT_BLENDS = 10
GREATEST_AMOUNT = 11
EXTREME_AVERAGES = 12
OBSTACLE = 13
CHEAPEST_IF_PRICE = 14
CHEAPEST_WITHOUT = 15

# How many whole numbers each of the calls 0 to 16 brings, its row not counted.
NUMBERS_OF_CALL = (0, 4, 2, 2, 1, 4, 0, 0, 0, 0, 0, 0, 1, 0, 2, 1, 0)
# The calls that bring a row, with its length ahead.
CALLS_WITH_ROW = (8, 9)


class Reader:
    """Reads a list of numbers from its start to its end, and leaves it as it is."""

    def __init__(self, calls):
        self.calls = calls
        self.place = 0

    def has_more(self):
        return self.place < len(self.calls)

    def take_one(self):
        number = self.calls[self.place]
        self.place += 1
        return number

    def take_several(self, how_many):
        numbers = self.calls[self.place:self.place + how_many]
        self.place += how_many
        return numbers


def change_stock(bakery, call, numbers):
    """Answer one of the calls 1 to 5."""
    if call == ADD_BIN:
        return bakery.add_bin(numbers[0], numbers[1], numbers[2], numbers[3])
    if call == ADD_FLOUR:
        return bakery.add_flour(numbers[0], numbers[1])
    if call == SET_PRICE:
        return bakery.set_price(numbers[0], numbers[1])
    if call == EMPTY_BIN:
        return bakery.empty_bin(numbers[0])
    return bakery.set_request(numbers[0], numbers[1], numbers[2], numbers[3])


def find_or_make(bakery, call, row):
    """Answer one of the calls 6 to 8."""
    if call == CHEAPEST_BLEND:
        return bakery.cheapest_blend()
    if call == MAKE_CHEAPEST_BLEND:
        return bakery.make_cheapest_blend()
    return bakery.make_blend(row)


def tell(bakery, call, numbers, row):
    """Answer one of the calls 9 to 16."""
    if call == CHECK_BLEND:
        return bakery.check_blend(row)
    if call == COUNT_BLENDS:
        return bakery.count_blends()
    if call == GREATEST_AMOUNT:
        return bakery.greatest_amount()
    if call == EXTREME_AVERAGES:
        return bakery.extreme_averages(numbers[0])
    if call == OBSTACLE:
        return bakery.obstacle()
    if call == CHEAPEST_IF_PRICE:
        return bakery.cheapest_if_price(numbers[0], numbers[1])
    if call == CHEAPEST_WITHOUT:
        return bakery.cheapest_without(numbers[0])
    return bakery.describe()


def answer_of(bakery, call, numbers, row):
    """Answer a call, other than create, on an instance."""
    if call <= SET_REQUEST:
        return change_stock(bakery, call, numbers)
    if call <= MAKE_BLEND:
        return find_or_make(bakery, call, row)
    return tell(bakery, call, numbers, row)


def answers(calls):
    """Make the calls on a new object, and list their answers, each behind its length."""
    reader = Reader(calls)
    bakery = None
    answered = []
    while reader.has_more():
        call = reader.take_one()
        numbers = reader.take_several(NUMBERS_OF_CALL[call])
        row = reader.take_several(reader.take_one()) if call in CALLS_WITH_ROW else []
        if call == CREATE:
            bakery = Bakery()
            answer = [0]
        elif bakery is None:
            answer = [NO_INSTANCE]
        else:
            answer = answer_of(bakery, call, numbers, row)
        answered.append(len(answer))
        answered.extend(answer)
    return answered
