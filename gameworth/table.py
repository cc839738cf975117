"""The table of parts: the least games in use, each different one once.

Sets of parts are whole numbers with one bit for each part, so that a game is held against a whole row in one step.
What is told of both sides is kept in pairs, left's at 0 and right's at 1.
"""

from gameworth.refusals import NoRoom

MOST_PARTS = 96
MOST_OPTIONS = 1024
LEFT = 0
RIGHT = 1


# A least game. as_good has for each side the parts that are at least as good for it, this part among them:
# for left those that this one is at most, for right those that are at most this one.
class Part:
    def __init__(self, bit, rows, as_good):
        self.bit = bit
        self.rows = rows
        self.row_bits = (bits_of(rows[LEFT]), bits_of(rows[RIGHT]))
        self.as_good = [as_good[LEFT] | bit, as_good[RIGHT] | bit]
        self.birthday = 0
        self.inside = bit
        for option in rows[LEFT] + rows[RIGHT]:
            self.birthday = max(self.birthday, option.birthday + 1)
            self.inside |= option.inside

    def option_count(self):
        return len(self.rows[LEFT]) + len(self.rows[RIGHT])


def bits_of(parts):
    bits = 0
    for part in parts:
        bits |= part.bit
    return bits


def inside_of(parts):
    bits = 0
    for part in parts:
        bits |= part.inside
    return bits


# Both are parts of one table.
def is_at_most(x, y):
    return (x.as_good[LEFT] & y.bit) != 0


# Python compares lists as the order of games compares rows, so options are told by their places in that order.
def order_key(part, places):
    lefts = [places[option.bit] for option in part.rows[LEFT]]
    rights = [places[option.bit] for option in part.rows[RIGHT]]
    return (part.birthday, lefts, rights)


# parts rises in the order of games; so each part stands behind all its options, and a walk along it needs no recursion.
# No two parts are worth the same.
class Table:
    def __init__(self, most_options):
        self.most_options = most_options
        self.parts = []
        self.used_bits = 0
        self.options_in_all = 0
        # The sum of two parts by both their bits; kept as long as all three are, since sums meet the same pairs again.
        self.sums = {}

    # The parts of a game, options before what they are options of.
    def parts_of(self, game):
        return [part for part in self.parts if part.bit & game.inside]

    # The form of the game with these options, which are parts here.
    # A form that is new is added; NoRoom if it can't be.
    def form_of(self, lefts, rights):
        under_lefts = 0
        for option in lefts:
            under_lefts |= option.as_good[RIGHT]
        over_rights = 0
        for option in rights:
            over_rights |= option.as_good[LEFT]
        above = 0
        below = 0
        for part in self.parts:
            if not (part.bit & under_lefts or part.row_bits[RIGHT] & below):
                above |= part.bit
            if not (part.bit & over_rights or part.row_bits[LEFT] & above):
                below |= part.bit
            if above & below:
                return part
        as_good = (above, below)
        rows = (self.least_row(LEFT, lefts, as_good), self.least_row(RIGHT, rights, as_good))
        return self.add_part(rows, as_good)

    # The row of a side in the form of a game that is worth the same as no part; as_good is the game's, as in Part.
    # In the place of an option that comes back stand the options behind the answer by which it does. These were born
    # before it, so one walk from the last part to the first also meets those of them that come back in their turn.
    def least_row(self, side, options, as_good):
        other = 1 - side
        bits = bits_of(options)
        for part in reversed(self.parts):
            if part.bit & bits and part.row_bits[other] & as_good[other]:
                answers = [answer for answer in part.rows[other] if answer.bit & as_good[other]]
                bits = (bits ^ part.bit) | answers[0].row_bits[side]
        row = [part for part in self.parts if part.bit & bits]
        return [part for part in row if (part.as_good[side] & bits) == part.bit]

    def add_part(self, rows, as_good):
        part = Part(self.free_bit(), rows, as_good)
        options_in_all = self.options_in_all + part.option_count()
        if len(self.parts) >= MOST_PARTS or options_in_all > self.most_options:
            raise NoRoom()
        for known in self.parts:
            if known.bit & part.as_good[LEFT]:
                known.as_good[RIGHT] |= part.bit
            if known.bit & part.as_good[RIGHT]:
                known.as_good[LEFT] |= part.bit
        self.insert_in_order(part)
        self.used_bits |= part.bit
        self.options_in_all = options_in_all
        return part

    # Bits are used again, so that they never grow longer than the table.
    def free_bit(self):
        return (self.used_bits + 1) & ~self.used_bits

    # Most new parts are born late, so the search begins at the end.
    def insert_in_order(self, part):
        places = {}
        for place, known in enumerate(self.parts):
            places[known.bit] = place
        key = order_key(part, places)
        place = len(self.parts)
        while place > 0 and key < order_key(self.parts[place - 1], places):
            place -= 1
        self.parts.insert(place, part)

    # Drops all parts but those with these bits, among which are the options of each.
    def keep_only(self, bits):
        if bits == self.used_bits:
            return
        self.parts = [part for part in self.parts if part.bit & bits]
        self.used_bits = bits
        self.options_in_all = sum([part.option_count() for part in self.parts])
        for part in self.parts:
            part.as_good[LEFT] &= bits
            part.as_good[RIGHT] &= bits
        self.sums = self.sums_within(bits)

    def sums_within(self, bits):
        kept = {}
        for pair, total in self.sums.items():
            if (pair | total.bit | bits) == bits:
                kept[pair] = total
        return kept
