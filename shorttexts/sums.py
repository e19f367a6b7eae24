"""Numbers of several bytes, the low one first, and the sum of a text (xxHash of 32 bits)."""

MODULUS = 4294967296
PRIME_1 = 2654435761
PRIME_2 = 2246822519
PRIME_3 = 3266489917
PRIME_4 = 668265263
PRIME_5 = 374761393


def low_first(number, count):
    return [(number >> (8 * k)) & 255 for k in range(count)]


def four_bytes_at(text, place):
    return text[place] + (text[place + 1] << 8) + (text[place + 2] << 16) + (text[place + 3] << 24)


def turned_left(number, count):
    return ((number << count) | (number >> (32 - count))) % MODULUS


def mixed(total, added, turn, factor):
    return turned_left((total + added) % MODULUS, turn) * factor % MODULUS


def sum_of_sixteens(seed, text):
    sums = [seed + PRIME_1 + PRIME_2, seed + PRIME_2, seed, seed - PRIME_1]
    for begin in range(0, len(text) - 15, 16):
        for k in range(4):
            sums[k] = mixed(sums[k], four_bytes_at(text, begin + 4 * k) * PRIME_2, 13, PRIME_1)
    return turned_left(sums[0], 1) + turned_left(sums[1], 7) + turned_left(sums[2], 12) + turned_left(sums[3], 18)


def with_bytes_left(total, text):
    place = len(text) // 16 * 16
    while place + 4 <= len(text):
        total = mixed(total, four_bytes_at(text, place) * PRIME_3, 17, PRIME_4)
        place += 4
    while place < len(text):
        total = mixed(total, text[place] * PRIME_5, 11, PRIME_1)
        place += 1
    return total


def text_sum(seed, text):
    if len(text) >= 16:
        total = sum_of_sixteens(seed, text)
    else:
        total = seed + PRIME_5
    total = with_bytes_left((total + len(text)) % MODULUS, text)
    total = (total ^ (total >> 15)) * PRIME_2 % MODULUS
    total = (total ^ (total >> 13)) * PRIME_3 % MODULUS
    return total ^ (total >> 16)
