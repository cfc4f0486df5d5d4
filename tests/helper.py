"""What the tests share: the calls made with care, and a second telling of each text to hold them against."""

import contextlib
import copy
import decimal
import fractions
import io
import itertools
import math
import random
import struct

HALF = b"\xe2\x96\x80"
END = b"\x1b[0m\n"
OVER = 2 ** 64 - 1
TOO_SMALL_OR_GREAT = [(0, 1), (1, 0), (0, 0), (1025, 1), (1, 1025), (331, 198), (257, 256), (1024, 65), (65, 1024)]


def called(call, *handed):
    """The answer of a call that is made twice: both alike, what was handed in as it was, nothing printed."""
    before = copy.deepcopy(handed)
    shown = io.StringIO()
    with contextlib.redirect_stdout(shown), contextlib.redirect_stderr(shown):
        first = call(*handed)
        kept = list(first)
        second = call(*handed)
    assert first == second == kept, "a second call answers otherwise"
    assert handed == before, "what was handed in was changed"
    assert shown.getvalue() == "", "something was printed"
    assert isinstance(first, list) and all(type(number) is int for number in first), "not a list of whole numbers"
    return first


def text_of(answer):
    """The bytes of an answered text, whose number stands before them."""
    assert answer[0] == len(answer) - 1, "the number of bytes is wrong"
    return bytes(answer[1:])


def upper(red, green, blue):
    return b"\x1b[38;2;%d;%d;%dm" % (red, green, blue)


def lower(red, green, blue):
    return b"\x1b[48;2;%d;%d;%dm" % (red, green, blue)


def some_numbers(seed, many, choices=None):
    chance = random.Random(seed)
    if choices:
        return [chance.choice(choices) for _ in range(many)]
    return [chance.randrange(65536) for _ in range(many)]


def second_blocks(wide, high, channels, ground, numbers):
    """The text of blocks, told from DOC.md a second time and in another way: cell by cell, looking back."""
    def colours(x, y):
        if y >= high:
            return tuple(ground)
        point = [number >> 8 for number in numbers[(y * wide + x) * channels:(y * wide + x + 1) * channels]]
        shades = {1: (0, 0, 0), 2: (0, 0, 0), 3: (0, 1, 2), 4: (0, 1, 2)}[channels]
        cover = point[-1] if channels in (2, 4) else 255
        return tuple((point[s] * cover + g * (255 - cover) + 127) // 255 for s, g in zip(shades, ground))

    text = b""
    for y in range(0, high, 2):
        for x in range(wide):
            for tell, row in ((upper, y), (lower, y + 1)):
                if x == 0 or colours(x, row) != colours(x - 1, row):
                    text += tell(*colours(x, row))
            text += HALF
        text += END
    return text


def second_dots(wide, high, turned, numbers):
    """The text of dots, told from DOC.md a second time: by the signs that Unicode has for them."""
    table = [[0, 8, 2, 10], [12, 4, 14, 6], [3, 11, 1, 9], [15, 7, 13, 5]]
    weights = {(0, 0): 1, (0, 1): 2, (0, 2): 4, (0, 3): 64, (1, 0): 8, (1, 1): 16, (1, 2): 32, (1, 3): 128}
    sums = [[0] * -(-wide // 2) for _ in range(-(-high // 4))]
    for place, number in enumerate(numbers):
        y, x = divmod(place, wide)
        if (number >= 4096 * table[y % 4][x % 4] + 2048) ^ bool(turned):
            sums[y // 4][x // 2] += weights[x % 2, y % 4]
    return "".join("".join(chr(0x2800 + s) for s in line) + "\n" for line in sums).encode()


def some_samples(seed, many, most=32767):
    chance = random.Random(seed)
    return [chance.randrange(-most - 1, most + 1) for _ in range(many)]


def second_bars(columns, lines, samples):
    """The text of bars, told from DOC.md a second time: column by column, from below, then turned over."""
    starts = [column * len(samples) // columns for column in range(columns)]
    sizes = [0] * columns
    column = 0
    for place, sample in enumerate(samples):
        if column + 1 < columns and place == starts[column + 1]:
            column += 1
        sizes[column] = max(sizes[column], sample, -sample)
    stacks = []
    for size in sizes:
        eighths = (size * 8 * lines + 16384) >> 15
        full, part = divmod(eighths, 8)
        stack = "\u2588" * full + (" " + "\u2581\u2582\u2583\u2584\u2585\u2586\u2587")[part] * (part > 0)
        stacks.append(stack.ljust(lines))
    rows = ["".join(stack[line] for stack in stacks) for line in range(lines)]
    return "".join(row + "\n" for row in reversed(rows)).encode()


def stacked(heights, lines):
    """The text of bars of these heights in so many lines."""
    def cell(eighths):
        return " " if eighths <= 0 else chr(0x2580 + min(eighths, 8))

    rows = ["".join(cell(height - 8 * below) for height in heights) for below in reversed(range(lines))]
    return "".join(row + "\n" for row in rows).encode()


def bits_of(number):
    """The 64 bits of a float, as one whole number."""
    return struct.unpack("<Q", struct.pack("<d", number))[0]


def float_of(bits):
    return struct.unpack("<d", struct.pack("<Q", bits))[0]


def finite_bits(chance):
    """Bits of a drawn finite number: any bits, or near a power of two, or few digits, or a small whole number."""
    sort = chance.randrange(5)
    if sort == 0:
        bits = chance.getrandbits(64)
    elif sort == 1:
        bits = (chance.randrange(2047) << 52) + chance.choice([-2, -1, 0, 1, 2])
    elif sort == 2:
        bits = bits_of(float(f"{chance.choice(['', '-'])}{chance.randrange(1, 10000)}e{chance.randrange(-327, 304)}"))
    elif sort == 3:
        bits = bits_of(float(chance.randrange(-10 ** chance.randrange(1, 20), 10 ** 17)))
    else:
        bits = bits_of(chance.randrange(-10 ** 9, 10 ** 9) / 10 ** chance.randrange(0, 14))
    return bits if 0 <= bits < 2 ** 64 and bits >> 52 & 2047 != 2047 else finite_bits(chance)


def in_form(below, digits, places):
    """A decimal in its form, of digits of which so many stand before the point."""
    exponent = places - len(digits)
    if 0 <= exponent and places <= 17:
        words = digits + "0" * exponent
    elif -6 < places <= 0:
        words = "0." + "0" * -places + digits
    elif 0 < places < len(digits):
        words = digits[:places] + "." + digits[places:]
    else:
        words = digits[0] + ("." + digits[1:] if len(digits) > 1 else "") + "e" + str(places - 1)
    return ("-" if below else "") + words


def second_decimal(bits):
    """The text of a number, from Python's own shortest digits."""
    number = float_of(bits)
    if number == 0:
        return "0"
    told = decimal.Decimal(repr(abs(number))).normalize().as_tuple()
    digits = "".join(map(str, told.digits))
    return in_form(number < 0, digits, len(digits) + told.exponent)


def third_decimal(bits):
    """The text of a number above 0, by trying all decimals of one digit, of two and so on, with whole ratios."""
    number = fractions.Fraction(float_of(bits))
    whole_after, whole_before = float_of(bits + 1), float_of(bits - 1)
    # Past the greatest number the next one would be as far as the one before.
    after = fractions.Fraction(whole_after) if whole_after < math.inf else 2 * number - fractions.Fraction(whole_before)
    low, high = (fractions.Fraction(whole_before) + number) / 2, (number + after) / 2
    places = next(n for n in range(-330, 330) if number < fractions.Fraction(10) ** n)
    for many in range(1, 18):
        one = fractions.Fraction(10) ** (places - many)
        fits = [d for d in range(math.ceil(low / one), math.floor(high / one) + 1)
                if bits % 2 == 0 or low < d * one < high]
        if fits:
            best = min(fits, key=lambda d: (abs(d * one - number), d % 2))
            digits = str(best)
            return in_form(False, digits.rstrip("0"), len(digits) + places - many)
    raise AssertionError("no decimal was found")


def second_table(names, lines):
    """The text of a table, told from DOC.md a second time: row by row, with Python's own rjust."""
    rows = [names] + [[second_decimal(bits) for bits in line] for line in lines]
    rooms = [max(len(row[k]) for row in rows) for k in range(len(names))]
    told = ["  ".join(word.rjust(room) for word, room in zip(row, rooms)) for row in rows]
    told.insert(1, "-" * (sum(rooms) + 2 * len(names) - 2))
    return "".join(row + "\n" for row in told).encode()


def second_sum(data):
    """CRC-32C a second time: bit by bit with the highest power foremost, turned round at the end."""
    rest = 0xFFFFFFFF
    for byte in data:
        for bit in range(8):
            out = (rest >> 31) ^ (byte >> bit & 1)
            rest = (rest << 1 & 0xFFFFFFFF) ^ (0x1EDC6F41 if out else 0)
    return int(f"{rest:032b}"[::-1], 2) ^ 0xFFFFFFFF


def piece(letters, content=b""):
    """The bytes of a piece, with its length and its sum."""
    told = letters + struct.pack("<I", len(content)) + bytes(content)
    return told + struct.pack("<I", second_sum(told))


DONE = piece(b"DONE")


def cut(data):
    """The pieces of a file, each its letters and its bytes, and None for what is no whole piece."""
    pieces = []
    while data:
        if len(data) < 12:
            return pieces + [None]
        behind = 8 + struct.unpack("<I", data[4:8])[0]
        if data[behind:behind + 4] != struct.pack("<I", second_sum(data[:behind])):
            return pieces + [None]
        pieces.append((data[:4], data[8:behind]))
        data = data[behind + 4:]
    return pieces


def wrapped(number):
    return (number % 65536) - (65536 if number % 65536 >= 32768 else 0)


def second_kept(numbers):
    """Numbers kept, told from DOC.md a second time: run by run."""
    told = b""
    folded = [2 * number if number >= 0 else -2 * number - 1 for number in numbers]
    for z, same in itertools.groupby(folded):
        many = len(list(same))
        if z == 0:
            one = b"\x3f" * (many // 64) + (bytes([many % 64 - 1]) if many % 64 else b"")
        elif z < 65:
            one = bytes([63 + z]) * many
        elif z < 16449:
            one = struct.pack(">H", z - 65 + 128 * 256) * many
        else:
            one = b"\xc0" + struct.pack("<H", z)
            one *= many
        told += one
    return told


def second_guesses(which, line, above, channels):
    """What the numbers of a line are guessed to be, looked up one by one."""
    told = []
    for k, _ in enumerate(line):
        a = line[k - channels] if k >= channels else 0
        b = above[k]
        c = above[k - channels] if k >= channels else 0
        told.append([0, a, b, (a + b) // 2, sorted([a, b, a + b - c])[1]][which])
    return told


def second_line(line, above, channels, which=None):
    """The bytes of a line, with its best guess or with another one."""
    tried = [[wrapped(number - guess) for number, guess in zip(line, second_guesses(k, line, above, channels))]
             for k in range(5)]
    if which is None:
        which = min(range(5), key=lambda k: (sum(map(abs, tried[k])), k))
    return bytes([which]) + second_kept(tried[which])


def second_lines(wide, channels, numbers, which=None):
    """The bytes of each line of a sheet; which may tell the guess of each."""
    many = wide * channels
    rows = [numbers[start:start + many] for start in range(0, len(numbers), many)]
    return [second_line(row, above, channels, which[y] if which else None)
            for y, (row, above) in enumerate(zip(rows, [[0] * many] + rows))]


def second_still(wide, high, channels, numbers, which=None):
    """The file of a sheet, told from DOC.md a second time."""
    told = piece(b"HEAD", struct.pack("<HHB", wide, high, channels))
    for line in second_lines(wide, channels, numbers, which):
        told += piece(b"LINE", line)
    return told + DONE


def read_kept_loosely(data, many):
    """Numbers kept, read whatever way they are kept, and what's behind them; None if that can't be."""
    numbers, at = [], 0
    while len(numbers) < many:
        left = data[at:at + 3]
        size = 0 if not left else 1 if left[0] < 128 else 2 if left[0] < 192 else 3 if left[0] == 192 else 0
        if not 0 < size <= len(left):
            return None
        at += size
        if left[0] < 64:
            numbers += [0] * (left[0] + 1)
            continue
        z = [left[0] - 63, 65 + (left[0] - 128) * 256 + left[-1 if size < 2 else 1],
             struct.unpack("<H", left[1:])[0] if size == 3 else 0][size - 1]
        numbers.append(z // 2 if z % 2 == 0 else -(z + 1) // 2)
    # They are kept just as told if they come out the same.
    if len(numbers) > many or second_kept(numbers) != data[:at]:
        return None
    return numbers, data[at:]


def second_read_line(data, above, channels):
    """A line as long as the one above, and what's behind it; None if that can't be."""
    kept = read_kept_loosely(data[1:], len(above)) if data and data[0] < 5 else None
    if kept is None:
        return None
    line = []
    for off in kept[0]:
        room = line + [0]
        line.append((second_guesses(data[0], room, above, channels)[-1] + off) % 65536)
    return line, kept[1]


def is_size(wide, high):
    return 1 <= wide <= 1024 and 1 <= high <= 1024 and wide * high <= 65536


def second_unstill(data):
    """The sheet of a file, read from DOC.md a second time: cut into pieces first."""
    pieces = cut(data) + [None, None]
    if pieces[0] is None or pieces[0][0] != b"HEAD" or len(pieces[0][1]) != 5:
        return [-100]
    wide, high, channels = struct.unpack("<HHB", pieces[0][1])
    if not is_size(wide, high) or not 1 <= channels <= 4:
        return [-100]
    rows = [[0] * (wide * channels)]
    for place in range(1, high + 1):
        told = pieces[place] and pieces[place][0] == b"LINE" and second_read_line(pieces[place][1], rows[-1], channels)
        if not told or told[1]:
            return [-100 - place]
        rows.append(told[0])
    if pieces[high + 1] != (b"DONE", b""):
        return [-101 - high]
    if len(pieces) != high + 4:
        return [-102 - high]
    return [0, wide, high, channels] + sum(rows[1:], [])


def full_of(time, wide, channels, numbers, which=None):
    """What stands in a piece FULL."""
    return struct.pack("<H", time) + b"".join(second_lines(wide, channels, numbers, which))


def part_of(time, wide, channels, numbers, before, rectangle=None, which=None):
    """What stands in a piece PART, of the least rectangle or of another one."""
    points = [(k // channels % wide, k // channels // wide) for k in range(len(numbers)) if numbers[k] != before[k]]
    if rectangle is None:
        rectangle = (0, 0, 0, 0)
        if points:
            (left, right), (top, bottom) = [(min(side), max(side)) for side in zip(*points)]
            rectangle = (left, top, right - left + 1, bottom - top + 1)
    x, y, across, down = rectangle
    off = [(numbers[k] - before[k]) % 65536 for row in range(y, y + down)
           for k in range((row * wide + x) * channels, (row * wide + x + across) * channels)]
    lines = second_lines(across, channels, off, which) if off else []
    return struct.pack("<HHHHH", time, *rectangle) + b"".join(lines)


def film_head(wide, high, channels, many):
    return piece(b"HEAD", struct.pack("<HHBH", wide, high, channels, many))


def second_film(wide, high, channels, sheets):
    """The file of sheets, each a time and its numbers, told from DOC.md a second time."""
    told = film_head(wide, high, channels, len(sheets))
    for (time, numbers), (_, before) in zip(sheets, [(0, None)] + sheets):
        full = full_of(time, wide, channels, numbers)
        part = part_of(time, wide, channels, numbers, before) if before is not None else full
        told += piece(b"PART", part) if len(part) < len(full) else piece(b"FULL", full)
    return told + DONE


def second_read_sheet(data, wide, high, channels):
    """The numbers of the lines that data has, and what's behind them; None if that can't be."""
    rows = [[0] * (wide * channels)]
    for _ in range(high):
        told = second_read_line(data, rows[-1], channels)
        if told is None:
            return None
        rows.append(told[0])
        data = told[1]
    return sum(rows[1:], []), data


def second_read_frame(letters, content, wide, high, channels, before):
    """The numbers of a FULL or a PART; None if it is wrong."""
    if letters == b"FULL" and len(content) >= 2:
        told = second_read_sheet(content[2:], wide, high, channels)
        return told[0] if told and not told[1] else None
    if letters != b"PART" or before is None or len(content) < 10:
        return None
    x, y, across, down = struct.unpack("<HHHH", content[2:10])
    if (x, y, across, down) == (0, 0, 0, 0):
        return before if len(content) == 10 else None
    if across < 1 or down < 1 or x + across > wide or y + down > high:
        return None
    told = second_read_sheet(content[10:], across, down, channels)
    if not told or told[1]:
        return None
    numbers = list(before)
    for k, off in enumerate(told[0]):
        row, rest = divmod(k, across * channels)
        place = ((y + row) * wide + x) * channels + rest
        numbers[place] = (numbers[place] + off) % 65536
    return numbers


def second_unfilm(k, data):
    """The k-th sheet of a file, read from DOC.md a second time: cut into pieces first."""
    pieces = cut(data) + [None, None]
    if pieces[0] is None or pieces[0][0] != b"HEAD" or len(pieces[0][1]) != 7:
        return [-100]
    wide, high, channels, many = struct.unpack("<HHBH", pieces[0][1])
    fits = is_size(wide, high) and 1 <= channels <= 4 and 1 <= many <= 64 and wide * high * channels * many <= 262144
    if not fits:
        return [-100]
    sheets = []
    for place in range(1, many + 1):
        before = sheets[-1][-1] if sheets else None
        told = pieces[place] and second_read_frame(*pieces[place], wide, high, channels, before)
        if not told:
            return [-100 - place]
        sheets.append((struct.unpack("<H", pieces[place][1][:2])[0], told))
    if pieces[many + 1] != (b"DONE", b""):
        return [-101 - many]
    if len(pieces) != many + 4:
        return [-102 - many]
    if k >= many:
        return [-5]
    return [0, sheets[k][0], wide, high, channels] + sheets[k][1]


def second_differences(order, samples):
    """The differences of an order, by how often each sample before counts."""
    counts = [[1], [1, -1], [1, -2, 1], [1, -3, 3, -1]][order]
    return [wrapped(sum(count * samples[k - back] for back, count in enumerate(counts) if k >= back))
            for k in range(len(samples))]


def sound_part(samples, order=None):
    """What stands in a piece PART of a sound, of the best order or of another one."""
    tried = [second_differences(k, samples) for k in range(4)]
    if order is None:
        order = min(range(4), key=lambda k: (sum(map(abs, tried[k])), k))
    return bytes([order]) + second_kept(tried[order])


def sound_head(rate, many):
    return piece(b"HEAD", struct.pack("<I", rate) + struct.pack("<I", many)[:3])


def second_sound(rate, samples, orders=None):
    """The file of a row, told from DOC.md a second time; orders may tell the order of each piece."""
    told = sound_head(rate, len(samples))
    for k, start in enumerate(range(0, len(samples), 4096)):
        told += piece(b"PART", sound_part(samples[start:start + 4096], orders[k] if orders else None))
    return told + DONE


def second_unsound(data):
    """The row of a file, read from DOC.md a second time: cut into pieces first."""
    pieces = cut(data) + [None, None]
    if pieces[0] is None or pieces[0][0] != b"HEAD" or len(pieces[0][1]) != 7:
        return [-100]
    rate, many = struct.unpack("<II", pieces[0][1] + b"\0")
    if not 1 <= rate <= 1000000 or not 1 <= many <= 65536:
        return [-100]
    samples, last = [], (many + 4095) // 4096
    for place in range(1, last + 1):
        letters, content = pieces[place] or (b"", b"")
        told = None
        if letters == b"PART" and content and content[0] < 4:
            told = read_kept_loosely(content[1:], min(4096, many - len(samples)))
        if told is None or told[1]:
            return [-100 - place]
        row = told[0]
        for _ in range(content[0]):
            row = list(itertools.accumulate(row))
        samples += [wrapped(sample) for sample in row]
    if pieces[last + 1] != (b"DONE", b""):
        return [-101 - last]
    if len(pieces) != last + 4:
        return [-102 - last]
    return [0, rate, many] + samples


def turned_round(number):
    return int(f"{number:032b}"[::-1], 2)


def second_joined(one, other, length):
    """The joined sum a second time: x to the power of eight times the length, the highest power foremost."""
    def rest(number):
        while number.bit_length() > 32:
            number ^= 0x11EDC6F41 << (number.bit_length() - 33)
        return number

    def product(first, second):
        total = 0
        for bit in range(second.bit_length()):
            if second >> bit & 1:
                total ^= first << bit
        return rest(total)

    power = 1
    for bit in f"{8 * length:b}":
        power = product(power, power)
        if bit == "1":
            power = rest(power << 1)
    return turned_round(product(turned_round(one), power)) ^ other


class SpoiledFiles:
    """What tests of all kinds of files share. Beside it stands a TestCase that sets data, a file that is right."""

    def reads(self, data):
        """The answers of the call, which should all be the same for a file that is wrong."""
        raise NotImplementedError

    def set_data(self, data):
        self.data = data
        self.pieces = [piece(*one) for one in cut(data)]

    def wrong(self, place, data):
        with self.subTest(place=place, data=data[:100]):
            for answer in self.reads(data):
                self.assertEqual(answer, [-100 - place])

    def instead(self, place, other):
        """The file with something else in the place of a piece."""
        return b"".join(self.pieces[:place] + [other] + self.pieces[place + 1:])

    def test_nothing_at_all(self):
        self.wrong(0, b"")

    def test_cut_off_at_every_byte(self):
        ends = list(itertools.accumulate([0] + [len(one) for one in self.pieces]))
        for many in range(len(self.data)):
            self.wrong(max(k for k, end in enumerate(ends) if end <= many), self.data[:many])

    def test_every_byte_spoiled(self):
        for place, one in enumerate(self.pieces):
            for k in range(len(one)):
                for other in (one[k] ^ 1, one[k] ^ 16, 255 - one[k]):
                    self.wrong(place, self.instead(place, one[:k] + bytes([other]) + one[k + 1:]))

    def test_too_long_for_what_is_there(self):
        for place, one in enumerate(self.pieces):
            for length in (1000, 65536, 2 ** 31, 2 ** 32 - 1):
                self.wrong(place, self.instead(place, one[:4] + struct.pack("<I", length) + one[8:]))

    def test_a_wrong_sum(self):
        for place, one in enumerate(self.pieces):
            self.wrong(place, self.instead(place, one[:-4] + b"\0\0\0\0"))
            self.wrong(place, self.instead(place, one[:-4] + one[-4:][::-1]))

    def test_wrong_letters(self):
        for place, one in enumerate(self.pieces):
            right, content = cut(one)[0]
            for letters in (b"HEAD", b"LINE", b"FULL", b"PART", b"DONE", b"head", b"HEAL", b"DON\0", b"\0\0\0\0"):
                if letters != right:
                    self.wrong(place, self.instead(place, piece(letters, content)))

    def test_something_in_done(self):
        for content in (b"\0", b"DONE", b"\1\2\3"):
            self.wrong(len(self.pieces) - 1, b"".join(self.pieces[:-1]) + piece(b"DONE", content))

    def test_something_behind_done(self):
        for more in (b"\0", b"\n", b"DONE", b"\0" * 12, DONE, self.pieces[1], self.data):
            self.wrong(len(self.pieces), self.data + more)

    def test_done_that_lacks(self):
        self.wrong(len(self.pieces) - 1, b"".join(self.pieces[:-1]))

    def test_the_first_of_several(self):
        spoiled = [one[:-1] + bytes([one[-1] ^ 1]) for one in self.pieces]
        for first in range(len(self.pieces)):
            self.wrong(first, b"".join(self.pieces[:first] + spoiled[first:]))
            self.wrong(first, b"".join(self.pieces[:first] + spoiled[first:]) + b"more")

    def test_files_of_nothing_but_noughts(self):
        self.wrong(0, b"\0" * 100000)
        self.wrong(0, b"\0" * 2097152)
