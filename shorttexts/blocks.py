"""LZ4 blocks of a text, frames around them, and the sums (xxHash of 32 bits) that they bear."""

WRONG_ARGUMENT = -8
TOO_LONG = -7

MODULUS = 4294967296
PRIME_1 = 2654435761
PRIME_2 = 2246822519
PRIME_3 = 3266489917
PRIME_4 = 668265263
PRIME_5 = 374761393

SHORTEST_MATCH = 4
FARTHEST_BACK = 65535
FEWEST_LEFT_FOR_A_MATCH = 12
LEFT_BEHIND_A_MATCH = 5

FIRST_FOUR = (4, 34, 77, 24)
BLOCK_SIZE = 65536
BLOCK_SIZE_BYTE = 64
STANDS_FOR_ITSELF = 2147483648

# The flags that pack is handed, and those that a frame's head bears.
ASKED_TEXT_SUM = 1
ASKED_BLOCK_SUMS = 2
ASKED_LENGTH = 4
ASKED_LINKED = 8
MOST_FLAGS = 15
HEAD_VERSION = 64
HEAD_ALONE = 32
HEAD_BLOCK_SUMS = 16
HEAD_LENGTH = 8
HEAD_TEXT_SUM = 4

# Two alphabets without a common letter: a search for whole bytes can't begin in the middle of one.
HIGH_LETTERS = "ABCDEFGHIJKLMNOP"
LOW_LETTERS = "abcdefghijklmnop"


def low_first(number, count):
    return [(number >> (8 * k)) & 255 for k in range(count)]


def four_bytes_at(text, place):
    return text[place] + (text[place + 1] << 8) + (text[place + 2] << 16) + (text[place + 3] << 24)


def turned_left(number, count):
    return ((number << count) | (number >> (32 - count))) % MODULUS


def mixed(total, added, turn, factor):
    return turned_left((total + added) % MODULUS, turn) * factor % MODULUS


def sum_of_sixteens(seed, text):
    sums = [seed + PRIME_1 + PRIME_2, seed + PRIME_2, seed, seed - PRIME_1]
    for begin in range(0, len(text) - 15, 16):
        for k in range(4):
            sums[k] = mixed(sums[k], four_bytes_at(text, begin + 4 * k) * PRIME_2, 13, PRIME_1)
    return turned_left(sums[0], 1) + turned_left(sums[1], 7) + turned_left(sums[2], 12) + turned_left(sums[3], 18)


def with_bytes_left(total, text):
    place = len(text) // 16 * 16
    while place + 4 <= len(text):
        total = mixed(total, four_bytes_at(text, place) * PRIME_3, 17, PRIME_4)
        place += 4
    while place < len(text):
        total = mixed(total, text[place] * PRIME_5, 11, PRIME_1)
        place += 1
    return total


def text_sum(seed, text):
    if len(text) >= 16:
        total = sum_of_sixteens(seed, text)
    else:
        total = seed + PRIME_5
    total = with_bytes_left((total + len(text)) % MODULUS, text)
    total = (total ^ (total >> 15)) * PRIME_2 % MODULUS
    total = (total ^ (total >> 13)) * PRIME_3 % MODULUS
    return total ^ (total >> 16)


def mirrored_letters(text):
    return "".join([HIGH_LETTERS[byte >> 4] + LOW_LETTERS[byte & 15] for byte in reversed(text)])


# For each place the nearest one before it with the same four bytes, or -1: most places without
# a match are passed over by a look at this, without a search.
def places_before(text):
    latest = {}
    before = []
    for place in range(len(text) - 3):
        four = four_bytes_at(text, place)
        before.append(latest.get(four, -1))
        latest[four] = place
    return before


def step_beyond(length):
    return 1 + length // 32


# A text made ready for the search of matches. The search is left to the find of a text of letters,
# since a loop over all places back takes far too long where a text has few different bytes. The letters
# are mirrored, so that what is found first is the nearest place back.
class SearchedText:
    def __init__(self, text):
        self.text = text
        self.mirrored = mirrored_letters(text)
        self.before = places_before(text)

    # The bytes from one place up to another lie, mirrored, from the other's index up to the one's.
    def mirrored_index(self, place):
        return 2 * (len(self.text) - place)

    # The last place ahead of near, but not ahead of lowest, with the same bytes as at place; or -1.
    def nearest_same(self, place, length, near, lowest):
        wanted = self.mirrored[self.mirrored_index(place + length):self.mirrored_index(place)]
        found = self.mirrored.find(wanted, self.mirrored_index(near - 1 + length), self.mirrored_index(lowest))
        if found < 0:
            return -1
        return len(self.text) - found // 2 - length

    def length_of_same(self, source, place, known, most):
        length = known
        while length < most and self.text[source + length] == self.text[place + length]:
            length += 1
        return length

    # How long the longest match is, and how far back it begins; or None. Each source is the nearest for its
    # length, since no nearer one had as many bytes as were wanted of it. Where the match is long already,
    # more than one byte is wanted at a time: else a long run would be searched once for each of its bytes.
    def longest_match(self, place, lowest, most):
        source = self.before[place]
        if source < lowest:
            return None
        length = self.length_of_same(source, place, SHORTEST_MATCH, most)
        step = step_beyond(length)
        while step > 0 and length < most:
            wanted = min(length + step, most)
            farther = self.nearest_same(place, wanted, source, lowest)
            if farther < 0:
                step = step // 2
            else:
                source = farther
                length = self.length_of_same(source, place, wanted, most)
                step = step_beyond(length)
        return (length, place - source)


def carried_on(count):
    if count < 15:
        return []
    return [255] * ((count - 15) // 255) + [(count - 15) % 255]


def part_with_match(own_bytes, length, back):
    more = length - SHORTEST_MATCH
    halves = 16 * min(len(own_bytes), 15) + min(more, 15)
    return [halves] + carried_on(len(own_bytes)) + own_bytes + low_first(back, 2) + carried_on(more)


def last_part(own_bytes):
    return [16 * min(len(own_bytes), 15)] + carried_on(len(own_bytes)) + own_bytes


# The bytes of the text from begin up to end as a block, with matches from first on.
def packed_parts(searched, first, begin, end):
    parts = []
    unpacked = begin
    place = begin
    while end - place >= FEWEST_LEFT_FOR_A_MATCH:
        lowest = max(first, place - FARTHEST_BACK)
        found = searched.longest_match(place, lowest, end - LEFT_BEHIND_A_MATCH - place)
        if found is None:
            place += 1
        else:
            parts.extend(part_with_match(searched.text[unpacked:place], found[0], found[1]))
            place += found[0]
            unpacked = place
    parts.extend(last_part(searched.text[unpacked:end]))
    return parts


def framed_block(flags, searched, begin):
    end = min(begin + BLOCK_SIZE, len(searched.text))
    first = begin
    if (flags & ASKED_LINKED) != 0:
        first = max(begin - BLOCK_SIZE, 0)
    block = packed_parts(searched, first, begin, end)
    told = len(block)
    if told >= end - begin:
        block = searched.text[begin:end]
        told = len(block) + STANDS_FOR_ITSELF
    framed = low_first(told, 4) + block
    if (flags & ASKED_BLOCK_SUMS) != 0:
        framed.extend(low_first(text_sum(0, block), 4))
    return framed


def head_flags(flags):
    head = HEAD_VERSION
    if (flags & ASKED_LINKED) == 0:
        head += HEAD_ALONE
    if (flags & ASKED_BLOCK_SUMS) != 0:
        head += HEAD_BLOCK_SUMS
    if (flags & ASKED_LENGTH) != 0:
        head += HEAD_LENGTH
    if (flags & ASKED_TEXT_SUM) != 0:
        head += HEAD_TEXT_SUM
    return head


def frame_head(flags, length):
    summed = [head_flags(flags), BLOCK_SIZE_BYTE]
    if (flags & ASKED_LENGTH) != 0:
        summed.extend(low_first(length, 8))
    return list(FIRST_FOUR) + summed + [(text_sum(0, summed) >> 8) & 255]


def framed_text(flags, text):
    frame = frame_head(flags, len(text))
    searched = SearchedText(text)
    for begin in range(0, len(text), BLOCK_SIZE):
        frame.extend(framed_block(flags, searched, begin))
    frame.extend([0, 0, 0, 0])
    if (flags & ASKED_TEXT_SUM) != 0:
        frame.extend(low_first(text_sum(0, text), 4))
    return frame


def pack(flags, most, text):
    if most < 0 or flags < 0 or flags > MOST_FLAGS:
        return [WRONG_ARGUMENT]
    frame = framed_text(flags, text)
    if len(frame) > most:
        return [TOO_LONG]
    return [len(frame)] + frame
