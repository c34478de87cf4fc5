"""The calls on a table of pieces and its baskets, and what they answer."""

from basketweights.weighing import best_set, count_sets, fewest_pieces, heaviest_within, most_pieces
from basketweights.weighing import part_by_set, weigh_row, weigh_sets

NO_SUCH = -2
NONE_THERE = -6
NOT_BEGUN = -11
TOO_LIGHT = -12
OUT_OF_RANGE = -22
TOO_MANY = -28
NOT_ENOUGH = -33

MOST_ON_TABLE = 9
MOST_THAT_CAME = 60
MOST_PIECE_GRAMS = 1000
MOST_GRAMS = 10000
MOST_NEEDED = 1000

BEGIN = 0


class Table:
    """The pieces on the table, the baskets packed from them, and what is wanted in a basket."""

    def __init__(self):
        self.begun = False
        self.wanted = 0
        self.pieces = []
        self.baskets = []

    def begin_anew(self, wanted):
        self.begun = True
        self.wanted = wanted
        self.pieces = []
        self.baskets = []

    def weigh_all(self):
        return sum(self.pieces)

    def count_came(self):
        # A piece that came is on the table or in a basket until it is taken away, so no count of its own is kept.
        return len(self.pieces) + sum([len(basket) for basket in self.baskets])

    def pack_chosen(self, chosen):
        """Pack the set into a new basket and give back the basket's number."""
        parted = part_by_set(self.pieces, chosen)
        self.baskets.append(parted[0])
        self.pieces = parted[1]
        return len(self.baskets) - 1


# Each call below takes the table, which is begun but for begin, and the list of the numbers told with the call.
# It answers a list of numbers. A refusal is given back before anything is changed.


def call_begin(table, told):
    wanted = told[0]
    if wanted < 1 or wanted > MOST_GRAMS:
        return [OUT_OF_RANGE]
    table.begin_anew(wanted)
    return [0]


def call_piece(table, told):
    grams = told[0]
    if grams < 1 or grams > MOST_PIECE_GRAMS:
        return [OUT_OF_RANGE]
    if len(table.pieces) >= MOST_ON_TABLE or table.count_came() >= MOST_THAT_CAME:
        return [TOO_MANY]
    table.pieces.append(grams)
    return [len(table.pieces) - 1, table.weigh_all()]


def call_take(table, told):
    place = told[0]
    if place >= len(table.pieces):
        return [NO_SUCH]
    return [table.pieces.pop(place)]


def call_want(table, told):
    wanted = told[0]
    if wanted < 1 or wanted > MOST_GRAMS:
        return [OUT_OF_RANGE]
    before = table.wanted
    table.wanted = wanted
    return [before]


def call_pack(table, told):
    if table.weigh_all() < table.wanted:
        return [NOT_ENOUGH]
    found = best_set(table.pieces, table.wanted)
    weight = found[0]
    chosen = found[2]
    return [table.pack_chosen(chosen), weight, chosen]


def call_packset(table, told):
    chosen = told[0]
    weights = weigh_sets(table.pieces)
    if chosen >= len(weights):
        return [OUT_OF_RANGE]
    if weights[chosen] < table.wanted:
        return [TOO_LIGHT]
    return [table.pack_chosen(chosen), weights[chosen]]


def call_unpack(table, told):
    if len(table.baskets) == 0:
        return [NONE_THERE]
    count = len(table.baskets[-1])
    if len(table.pieces) + count > MOST_ON_TABLE:
        return [TOO_MANY]
    table.pieces.extend(table.baskets.pop())
    return [count]


def call_best(table, told):
    least = told[0]
    if least > MOST_GRAMS:
        return [OUT_OF_RANGE]
    if table.weigh_all() < least:
        return [NOT_ENOUGH]
    found = best_set(table.pieces, least)
    return [found[0], found[2], found[1]]


def call_fewest(table, told):
    least = told[0]
    if least > MOST_GRAMS:
        return [OUT_OF_RANGE]
    if table.weigh_all() < least:
        return [NOT_ENOUGH]
    return list(fewest_pieces(table.pieces, least))


def call_most(table, told):
    limit = told[0]
    if limit > MOST_GRAMS:
        return [OUT_OF_RANGE]
    return list(most_pieces(table.pieces, limit))


def call_ways(table, told):
    grams = told[0]
    if grams > MOST_GRAMS:
        return [OUT_OF_RANGE]
    return [weigh_sets(table.pieces).count(grams)]


def call_under(table, told):
    limit = told[0]
    if limit > MOST_GRAMS:
        return [OUT_OF_RANGE]
    return [heaviest_within(table.pieces, limit)]


def call_half(table, told):
    total = table.weigh_all()
    # The nearer the lighter half is to the middle, the less the two differ.
    lighter = heaviest_within(table.pieces, total // 2)
    return [lighter, total - lighter]


def call_row(table, told):
    row = weigh_row(table.pieces, table.wanted)
    return [len(row)] + row


def call_weigh(table, told):
    chosen = told[0]
    weights = weigh_sets(table.pieces)
    if chosen >= len(weights):
        return [OUT_OF_RANGE]
    return [weights[chosen], count_sets(table.pieces)[chosen]]


def call_could(table, told):
    least = told[0]
    if least > MOST_GRAMS:
        return [OUT_OF_RANGE]
    if table.weigh_all() < least:
        return [0]
    return [1]


def call_need(table, told):
    grams = told[0]
    if grams < 1 or grams > MOST_PIECE_GRAMS:
        return [OUT_OF_RANGE]
    lacking = max(0, table.wanted - table.weigh_all())
    if lacking > MOST_NEEDED * grams:
        return [NOT_ENOUGH]
    # A piece that is needed in part is needed whole, so this rounds up.
    return [(lacking + grams - 1) // grams]


def call_heaviest(table, told):
    if len(table.pieces) == 0:
        return [NONE_THERE]
    grams = max(table.pieces)
    return [table.pieces.index(grams), grams]


def call_between(table, told):
    lowest = told[0]
    highest = told[1]
    if highest < lowest:
        return [OUT_OF_RANGE]
    places = [i for i, grams in enumerate(table.pieces) if lowest <= grams and grams <= highest]
    return [len(places)] + places


def call_middle(table, told):
    count = len(table.pieces)
    if count == 0:
        return [NONE_THERE]
    # The one less makes it the lighter of the two where the count is even.
    return [sorted(table.pieces)[(count - 1) // 2], table.weigh_all() // count]


def call_basket(table, told):
    place = told[0]
    if place >= len(table.baskets):
        return [NO_SUCH]
    grams = table.baskets[place]
    return [len(grams), sum(grams)] + grams


def call_sums(table, told):
    weights = [sum(basket) for basket in table.baskets]
    # A basket lighter than what's wanted now must not make up for what others have too much.
    beyond = sum([max(0, weight - table.wanted) for weight in weights])
    return [0, table.count_came(), len(table.pieces), table.weigh_all(), len(weights), sum(weights), beyond]


def call_state(table, told):
    return [len(table.pieces), table.wanted] + table.pieces


# Both tables stand in the order of the calls' numbers.
CALLS = (
    call_begin,
    call_piece,
    call_take,
    call_want,
    call_pack,
    call_packset,
    call_unpack,
    call_best,
    call_fewest,
    call_most,
    call_ways,
    call_under,
    call_half,
    call_row,
    call_weigh,
    call_could,
    call_need,
    call_heaviest,
    call_between,
    call_middle,
    call_basket,
    call_sums,
    call_state,
)
TOLD_COUNTS = (1, 1, 1, 1, 0, 1, 0, 1, 1, 1, 1, 1, 0, 0, 1, 1, 1, 0, 2, 0, 1, 0, 0)


def answer_call(table, number, told):
    if number != BEGIN and not table.begun:
        return [NOT_BEGUN]
    return CALLS[number](table, told)


def answers(calls):
    """Answer the calls, one behind another, on a new table: for each how many numbers are answered, then these."""
    table = Table()
    answered = []
    place = 0
    while place < len(calls):
        number = calls[place]
        behind = place + 1 + TOLD_COUNTS[number]
        answer = answer_call(table, number, calls[place + 1:behind])
        answered.append(len(answer))
        answered.extend(answer)
        place = behind
    return answered
