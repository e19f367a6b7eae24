"""LZ4 blocks of a text, and frames around them: made, and read strictly."""

from shorttexts.sums import four_bytes_at, low_first, text_sum

NOTHING_WRONG = 0
NO_WHOLE_HEAD = -1
WRONG_HEAD = -2
WRONG_SUM = -3
WRONG_BLOCKS = -4
WRONG_PARTS = -5
TEXT_TOO_LONG = -6
TOO_LONG = -7
WRONG_ARGUMENT = -8
WRONG_LENGTH = -9

LONGEST_TEXT = 1048576

SHORTEST_MATCH = 4
FARTHEST_BACK = 65535
FEWEST_LEFT_FOR_A_MATCH = 12
LEFT_BEHIND_A_MATCH = 5

FIRST_FOUR = (4, 34, 77, 24)
BLOCK_SIZE = 65536
BLOCK_SIZE_BYTE = 64
BLOCK_SIZES = {64: 65536, 80: 262144, 96: 1048576, 112: 4194304}
STANDS_FOR_ITSELF = 2147483648
SHORTEST_HEAD = 7

# The flags that pack is handed, and those that a frame's head bears.
ASKED_TEXT_SUM = 1
ASKED_BLOCK_SUMS = 2
ASKED_LENGTH = 4
ASKED_LINKED = 8
MOST_FLAGS = 15
HEAD_FIXED_BITS = 195
HEAD_VERSION = 64
HEAD_ALONE = 32
HEAD_BLOCK_SUMS = 16
HEAD_LENGTH = 8
HEAD_TEXT_SUM = 4

# Two alphabets without a common letter: a search for whole bytes can't begin in the middle of one.
HIGH_LETTERS = "ABCDEFGHIJKLMNOP"
LOW_LETTERS = "abcdefghijklmnop"


def mirrored_letters(text):
    return "".join([HIGH_LETTERS[byte >> 4] + LOW_LETTERS[byte & 15] for byte in reversed(text)])


# For each place the nearest one before it with the same four bytes, or -1: most places without
# a match are passed over by a look at this, without a search.
def places_before(text):
    latest = {}
    before = []
    for place in range(len(text) - 3):
        four = four_bytes_at(text, place)
        before.append(latest.get(four, -1))
        latest[four] = place
    return before


def step_beyond(length):
    return 1 + length // 32


# A text made ready for the search of matches. The search is left to the find of a text of letters,
# since a loop over all places back takes far too long where a text has few different bytes. The letters
# are mirrored, so that what is found first is the nearest place back.
class SearchedText:
    def __init__(self, text):
        self.text = text
        self.mirrored = mirrored_letters(text)
        self.before = places_before(text)

    # The bytes from one place up to another lie, mirrored, from the other's index up to the one's.
    def mirrored_index(self, place):
        return 2 * (len(self.text) - place)

    # The last place ahead of near, but not ahead of lowest, with the same bytes as at place; or -1.
    def nearest_same(self, place, length, near, lowest):
        wanted = self.mirrored[self.mirrored_index(place + length):self.mirrored_index(place)]
        found = self.mirrored.find(wanted, self.mirrored_index(near - 1 + length), self.mirrored_index(lowest))
        if found < 0:
            return -1
        return len(self.text) - found // 2 - length

    def length_of_same(self, source, place, known, most):
        length = known
        while length < most and self.text[source + length] == self.text[place + length]:
            length += 1
        return length

    # How long the longest match is, and how far back it begins; or None. Each source is the nearest for its
    # length, since no nearer one had as many bytes as were wanted of it. Where the match is long already,
    # more than one byte is wanted at a time: else a long run would be searched once for each of its bytes.
    def longest_match(self, place, lowest, most):
        source = self.before[place]
        if source < lowest:
            return None
        length = self.length_of_same(source, place, SHORTEST_MATCH, most)
        step = step_beyond(length)
        while step > 0 and length < most:
            wanted = min(length + step, most)
            farther = self.nearest_same(place, wanted, source, lowest)
            if farther < 0:
                step = step // 2
            else:
                source = farther
                length = self.length_of_same(source, place, wanted, most)
                step = step_beyond(length)
        return (length, place - source)


def carried_on(count):
    if count < 15:
        return []
    return [255] * ((count - 15) // 255) + [(count - 15) % 255]


def part_with_match(own_bytes, length, back):
    more = length - SHORTEST_MATCH
    halves = 16 * min(len(own_bytes), 15) + min(more, 15)
    return [halves] + carried_on(len(own_bytes)) + own_bytes + low_first(back, 2) + carried_on(more)


def last_part(own_bytes):
    return [16 * min(len(own_bytes), 15)] + carried_on(len(own_bytes)) + own_bytes


# The bytes of the text from begin up to end as a block, with matches from first on.
def packed_parts(searched, first, begin, end):
    parts = []
    unpacked = begin
    place = begin
    while end - place >= FEWEST_LEFT_FOR_A_MATCH:
        lowest = max(first, place - FARTHEST_BACK)
        found = searched.longest_match(place, lowest, end - LEFT_BEHIND_A_MATCH - place)
        if found is None:
            place += 1
        else:
            parts.extend(part_with_match(searched.text[unpacked:place], found[0], found[1]))
            place += found[0]
            unpacked = place
    parts.extend(last_part(searched.text[unpacked:end]))
    return parts


def framed_block(flags, searched, begin):
    end = min(begin + BLOCK_SIZE, len(searched.text))
    first = begin
    if (flags & ASKED_LINKED) != 0:
        first = max(begin - BLOCK_SIZE, 0)
    block = packed_parts(searched, first, begin, end)
    told = len(block)
    if told >= end - begin:
        block = searched.text[begin:end]
        told = len(block) + STANDS_FOR_ITSELF
    framed = low_first(told, 4) + block
    if (flags & ASKED_BLOCK_SUMS) != 0:
        framed.extend(low_first(text_sum(0, block), 4))
    return framed


def head_flags(flags):
    head = HEAD_VERSION
    if (flags & ASKED_LINKED) == 0:
        head += HEAD_ALONE
    if (flags & ASKED_BLOCK_SUMS) != 0:
        head += HEAD_BLOCK_SUMS
    if (flags & ASKED_LENGTH) != 0:
        head += HEAD_LENGTH
    if (flags & ASKED_TEXT_SUM) != 0:
        head += HEAD_TEXT_SUM
    return head


def head_sum(summed):
    return (text_sum(0, summed) >> 8) & 255


def frame_head(flags, length):
    summed = [head_flags(flags), BLOCK_SIZE_BYTE]
    if (flags & ASKED_LENGTH) != 0:
        summed.extend(low_first(length, 8))
    return list(FIRST_FOUR) + summed + [head_sum(summed)]


def framed_text(flags, text):
    frame = frame_head(flags, len(text))
    searched = SearchedText(text)
    for begin in range(0, len(text), BLOCK_SIZE):
        frame.extend(framed_block(flags, searched, begin))
    frame.extend([0, 0, 0, 0])
    if (flags & ASKED_TEXT_SUM) != 0:
        frame.extend(low_first(text_sum(0, text), 4))
    return frame


# Bytes that are read from their beginning on. Who takes some asks first how many are left.
class Reader:
    def __init__(self, source):
        self.source = source
        self.place = 0

    def left(self):
        return len(self.source) - self.place

    def taken(self, count):
        self.place += count
        return self.source[self.place - count:self.place]

    def number(self, count):
        total = 0
        for byte in reversed(self.taken(count)):
            total = 256 * total + byte
        return total

    # What a half stands for with all that carries it on, or -1 if that isn't whole.
    def carried(self, half):
        if half < 15:
            return half
        total = half
        while self.left() > 0:
            more = self.number(1)
            total += more
            if more < 255:
                return total
        return -1


# What a match stands for. One that reaches into itself says what lies between over and over.
def matched_bytes(text, back, length):
    begin = len(text) - back
    if length <= back:
        return text[begin:begin + length]
    return (text[begin:] * (length // back + 1))[:length]


# Puts the block's text behind the text that is there, with matches from first on, and tells whether
# the parts are right and make no more than most bytes. A match is measured before it is written, since
# a few bytes can ask for very many.
def unpack_parts(block, text, first, most):
    longest = len(text) + most
    reader = Reader(block)
    while reader.left() > 0:
        halves = reader.number(1)
        own = reader.carried(halves >> 4)
        if own < 0 or own > reader.left():
            return False
        text.extend(reader.taken(own))
        if reader.left() == 0:
            return len(text) <= longest
        if reader.left() < 2:
            return False
        back = reader.number(2)
        more = reader.carried(halves & 15)
        if more < 0 or back == 0 or back > len(text) - first:
            return False
        if len(text) + SHORTEST_MATCH + more > longest:
            return False
        text.extend(matched_bytes(text, back, SHORTEST_MATCH + more))
    return False


# A frame that is read up to the first that's wrong; each method that reads on tells what that is.
class FrameReader:
    def __init__(self, frame):
        self.reader = Reader(frame)
        self.flags = 0
        self.block_size = 0
        self.length = 0
        self.text = []

    def says(self, flag):
        return (self.flags & flag) != 0

    def read_head(self):
        reader = self.reader
        if reader.left() < SHORTEST_HEAD or reader.taken(4) != list(FIRST_FOUR):
            return NO_WHOLE_HEAD
        summed = reader.taken(2)
        if (summed[0] & HEAD_FIXED_BITS) != HEAD_VERSION or summed[1] not in BLOCK_SIZES:
            return WRONG_HEAD
        self.flags = summed[0]
        self.block_size = BLOCK_SIZES[summed[1]]
        if self.says(HEAD_LENGTH):
            if reader.left() < 9:
                return NO_WHOLE_HEAD
            self.length = reader.number(8)
            summed.extend(low_first(self.length, 8))
        if reader.number(1) != head_sum(summed):
            return WRONG_SUM
        return NOTHING_WRONG

    # The sum is looked at ahead of the parts: of a spoiled block it is said that it's spoiled.
    def read_block(self, told):
        length = told % STANDS_FOR_ITSELF
        with_sum = length + 4 if self.says(HEAD_BLOCK_SUMS) else length
        if length > self.block_size or with_sum > self.reader.left():
            return WRONG_BLOCKS
        block = self.reader.taken(length)
        if self.says(HEAD_BLOCK_SUMS) and self.reader.number(4) != text_sum(0, block):
            return WRONG_SUM
        first = len(self.text) if self.says(HEAD_ALONE) else 0
        if told >= STANDS_FOR_ITSELF:
            self.text.extend(block)
        elif not unpack_parts(block, self.text, first, self.block_size):
            return WRONG_PARTS
        return TEXT_TOO_LONG if len(self.text) > LONGEST_TEXT else NOTHING_WRONG

    def read_blocks(self):
        while self.reader.left() >= 4:
            told = self.reader.number(4)
            if told == 0:
                return NOTHING_WRONG
            wrong = self.read_block(told)
            if wrong != NOTHING_WRONG:
                return wrong
        return WRONG_BLOCKS

    def read_end(self):
        if self.reader.left() != (4 if self.says(HEAD_TEXT_SUM) else 0):
            return WRONG_BLOCKS
        if self.says(HEAD_TEXT_SUM) and self.reader.number(4) != text_sum(0, self.text):
            return WRONG_SUM
        if self.says(HEAD_LENGTH) and self.length != len(self.text):
            return WRONG_LENGTH
        return NOTHING_WRONG

    def read_all(self):
        wrong = self.read_head()
        if wrong == NOTHING_WRONG:
            wrong = self.read_blocks()
        if wrong == NOTHING_WRONG:
            wrong = self.read_end()
        return wrong


def answered(most, found):
    if len(found) > most:
        return [TOO_LONG]
    return [len(found)] + found


def pack(flags, most, text):
    if most < 0 or flags < 0 or flags > MOST_FLAGS:
        return [WRONG_ARGUMENT]
    return answered(most, framed_text(flags, text))


def unpack(most, frame):
    if most < 0:
        return [WRONG_ARGUMENT]
    reader = FrameReader(frame)
    wrong = reader.read_all()
    if wrong != NOTHING_WRONG:
        return [wrong]
    return answered(most, reader.text)


def pack_block(most, text):
    if most < 0:
        return [WRONG_ARGUMENT]
    return answered(most, packed_parts(SearchedText(text), 0, 0, len(text)))


def unpack_block(most, block):
    if most < 0:
        return [WRONG_ARGUMENT]
    text = []
    if not unpack_parts(block, text, 0, LONGEST_TEXT):
        return [WRONG_PARTS]
    return answered(most, text)


def sum_of(seed, text):
    return [text_sum(seed, text)]
