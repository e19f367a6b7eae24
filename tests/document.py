"""What the tests lean on: texts, and a slow packer and a slow unpacker written straight from the document."""

import functools

SIXTEEN = range(16)
MOST = 2147483647
MARK = list(b"abcdefgh")
TAIL = list(b"0123456789ij")


def bytes_of(number, count):
    return list(number.to_bytes(count, "little"))


def no_match(count, begin=0):
    """Bytes from 1 to 251 without four that stand twice, nor twice the same byte in a row."""
    assert count + 2 * begin <= 31500, "there are no more of these"
    text = []
    number = begin
    while len(text) < count:
        text += [1 + number // 125, 127 + number % 125]
        number += 1
    return text[:count]


def few_letters(count, letters, seed=1):
    """The same bytes each time, of so many different letters, without any order to be seen."""
    text = []
    state = seed
    for _ in range(count):
        state = (state * 1103515245 + 12345) % 2147483648
        text.append((state >> 16) % letters)
    return text


def put_mark(text, place, mark, ahead, behind):
    """The mark between two bytes that stand nowhere else, so that no match reaches past it."""
    if place > 0:
        text[place - 1] = ahead
    text[place:place + len(mark) + 1] = mark + [behind]


def marked_twice(first, second):
    """Noughts with the same mark at two places."""
    text = [0] * second
    put_mark(text, first, MARK, 201, 202)
    put_mark(text, second, MARK, 203, 204)
    return text + TAIL


def xxhash(data, seed=0):
    """xxHash of 32 bits."""
    p1, p2, p3, p4, p5 = 2654435761, 2246822519, 3266489917, 668265263, 374761393
    mask = 0xFFFFFFFF

    def rol(x, by):
        x &= mask
        return (x << by | x >> 32 - by) & mask

    data = bytes(data)
    at = 0
    if len(data) < 16:
        h = seed + p5
    else:
        lanes = [seed + p1 + p2, seed + p2, seed, seed - p1]
        while len(data) - at >= 16:
            for lane in range(4):
                word = int.from_bytes(data[at:at + 4], "little")
                lanes[lane] = rol(lanes[lane] + word * p2, 13) * p1 & mask
                at += 4
        h = sum(rol(x, by) for x, by in zip(lanes, (1, 7, 12, 18)))
    h += len(data)
    while len(data) - at >= 4:
        h = rol(h + int.from_bytes(data[at:at + 4], "little") * p3, 17) * p4
        at += 4
    for byte in data[at:]:
        h = rol(h + byte * p5, 11) * p1
    h &= mask
    h = (h ^ h >> 15) * p2 & mask
    h = (h ^ h >> 13) * p3 & mask
    return h ^ h >> 16


def longest(data, place, lowest, most):
    """Point 4, slowly: one byte more as long as there is a place back for it, each time the nearest."""
    length, source = 3, None
    while length < most:
        found = data.rfind(data[place:place + length + 1], lowest, place + length)
        if found < 0:
            break
        length, source = length + 1, found
    return (length, place - source) if source is not None else None


@functools.lru_cache(maxsize=64)
def parts_by_the_document(data, first, begin, end):
    parts, since, place = [], begin, begin
    while end - place >= 12:
        match = longest(data, place, max(first, place - 65535), end - 5 - place)
        if match is None:
            place += 1
        else:
            length, back = match
            parts.append((list(data[since:place]), back, length))
            place += length
            since = place
    return parts + [(list(data[since:end]), None, None)]


def half(count):
    """A half of a part's first byte, and what carries it on."""
    if count < 15:
        return count, []
    more = []
    count -= 15
    while count >= 255:
        more.append(255)
        count -= 255
    return 15, more + [count]


def written(parts):
    block = []
    for own, back, length in parts:
        high, more_own = half(len(own))
        if back is None:
            block += [high << 4] + more_own + own
        else:
            low, more_match = half(length - 4)
            block += [high << 4 | low] + more_own + own + bytes_of(back, 2) + more_match
    return block


def frame_by_the_document(flags, text):
    told = 0x40 | (0 if flags & 8 else 0x20) | (0x10 if flags & 2 else 0) | (8 if flags & 4 else 0) | (flags & 1) << 2
    head = [told, 0x40] + (bytes_of(len(text), 8) if flags & 4 else [])
    frame = [0x04, 0x22, 0x4D, 0x18] + head + [xxhash(head) >> 8 & 255]
    for begin in range(0, len(text), 65536):
        own = text[begin:begin + 65536]
        first = max(0, begin - 65536) if flags & 8 else begin
        block = written(parts_by_the_document(bytes(text), first, begin, begin + len(own)))
        if len(block) < len(own):
            frame += bytes_of(len(block), 4)
        else:
            block = own
            frame += bytes_of(len(block) + 2 ** 31, 4)
        frame += block + (bytes_of(xxhash(block), 4) if flags & 2 else [])
    return frame + [0, 0, 0, 0] + (bytes_of(xxhash(text), 4) if flags & 1 else [])


def blocks_of(flags, frame):
    """The blocks of a frame, each with whether it stands for itself; head and end are left to other tests."""
    at = 15 if flags & 4 else 7
    blocks = []
    while True:
        told = int.from_bytes(bytes(frame[at:at + 4]), "little")
        at += 4
        if told == 0:
            break
        length = told % 2 ** 31
        blocks.append((told >= 2 ** 31, frame[at:at + length]))
        at += length + (4 if flags & 2 else 0)
    assert at + (4 if flags & 1 else 0) == len(frame), "something stands behind the end"
    return blocks


def parts_of(block):
    parts, at = [], 0
    while True:
        high, low = divmod(block[at], 16)
        at += 1
        if high == 15:
            while block[at] == 255:
                high, at = high + 255, at + 1
            high, at = high + block[at], at + 1
        own = block[at:at + high]
        assert len(own) == high, "a part isn't whole"
        at += high
        if at == len(block):
            assert low == 0, "the last part has a match"
            return parts + [(own, None, None)]
        back = block[at] + 256 * block[at + 1]
        at += 2
        if low == 15:
            while block[at] == 255:
                low, at = low + 255, at + 1
            low, at = low + block[at], at + 1
        parts.append((own, back, low + 4))


def text_of(flags, frame):
    """The text of a frame, byte after byte; an index out of reach is a fault of the frame."""
    text = []
    for alone, block in blocks_of(flags, frame):
        begin = len(text)
        if alone:
            text += block
            continue
        for own, back, length in parts_of(block):
            text += own
            if back is None:
                continue
            source = len(text) - back
            assert back > 0 and source >= (0 if flags & 8 else begin), "a match reaches too far back"
            for k in range(length):
                text.append(text[source + k])
        assert len(text) - begin <= 65536, "a block has too much text"
    return text


class Wrong(Exception):
    """What's wrong with a frame or a block, by its number."""

    def __init__(self, number):
        super().__init__(number)
        self.number = number


def require(holds, number):
    if not holds:
        raise Wrong(number)


class Bytes:
    """Bytes that are taken one after another; -4 or what else is said where they end too early."""

    def __init__(self, source):
        self.source = bytes(source)

    def take(self, count, number):
        require(len(self.source) >= count, number)
        taken, self.source = self.source[:count], self.source[count:]
        return taken

    def number(self, count, number):
        return int.from_bytes(self.take(count, number), "little")


def half_read(source, half):
    total = half
    if half == 15:
        more = 255
        while more == 255:
            more = source.number(1, -5)
            total += more
    return total


def block_read(block, before, most):
    """Points 2 and 3, byte after byte: the block's text, with matches that reach into what stands before it."""
    source, text = Bytes(block), bytearray(before)
    while True:
        high, low = divmod(source.number(1, -5), 16)
        text += source.take(half_read(source, high), -5)
        if not source.source:
            break
        back = source.number(2, -5)
        length = half_read(source, low) + 4
        require(0 < back <= len(text), -5)
        require(len(text) - len(before) + length <= most, -5)
        for _ in range(length):
            text.append(text[-back])
    require(len(text) - len(before) <= most, -5)
    return bytes(text[len(before):])


def frame_read(frame):
    """Point 6: the frame's text."""
    require(len(frame) >= 7, -1)
    source = Bytes(frame)
    require(source.take(4, -1) == b"\x04\x22\x4D\x18", -1)
    flags, other = told = source.take(2, -1)
    require(flags & 0b11000000 == 0b01000000 and flags & 0b11 == 0, -2)
    require(other & 0b10001111 == 0 and other >> 4 >= 4, -2)
    size = {4: 2 ** 16, 5: 2 ** 18, 6: 2 ** 20, 7: 2 ** 22}[other >> 4]
    length = source.take(8 if flags & 8 else 0, -1)
    require(source.number(1, -1) == xxhash(told + length) // 256 % 256, -3)
    text = b""
    while True:
        long = source.number(4, -4)
        if long == 0:
            break
        require(long % 2 ** 31 <= size, -4)
        block = source.take(long % 2 ** 31, -4)
        if flags & 16:
            require(source.number(4, -4) == xxhash(block), -3)
        text += block if long >= 2 ** 31 else block_read(block, b"" if flags & 32 else text, size)
        require(len(text) <= 1048576, -6)
    text_sum = source.take(4 if flags & 4 else 0, -4)
    require(not source.source, -4)
    require(not flags & 4 or int.from_bytes(text_sum, "little") == xxhash(text), -3)
    require(not flags & 8 or int.from_bytes(length, "little") == len(text), -9)
    return text


def answer_by_the_document(read, most):
    """What unpack or unpack_block answers where this reads the text."""
    try:
        require(most >= 0, -8)
        text = read()
        require(len(text) <= most, -7)
    except Wrong as wrong:
        return [wrong.number]
    return [len(text)] + list(text)


def unpack_by_the_document(most, frame):
    return answer_by_the_document(lambda: frame_read(frame), most)


def block_by_the_document(text):
    """Point 4: the whole text as one block."""
    return written(parts_by_the_document(bytes(text), 0, 0, len(text)))


def unpack_block_by_the_document(most, block):
    return answer_by_the_document(lambda: block_read(block, b"", 1048576), most)
