"""Reading: what a text tells as a drawing, or where it stops to be one."""

MOST_BYTES = 65536
MOST_SIDE = 256
MOST_SIGNS = 16
NAME_SIGNS = 36
MOST_STROKES = 64
MOST_PLACES = 64
MOST_FILLS = 64
MOST_PAINT = 255
MOST_BRUSH = 16
FARTHEST = 999

# Stands where no byte or no digit is at hand: less than each of them.
NOTHING = -1


# Refused by -2.
class TooLong(Exception):
    pass


# Refused by -6. The fault: so many bytes of the text some drawing's text begins with.
class NoDrawing(Exception):

    def __init__(self, fault):
        self.fault = fault


class Stroke:

    def __init__(self, label, paint, brush, places):
        self.label = label
        self.paint = paint
        self.brush = brush
        self.places = places


class Drawing:

    def __init__(self, label, width, height, strokes, fills):
        self.label = label
        self.width = width
        self.height = height
        self.strokes = strokes
        self.fills = fills


def is_letter(byte):
    return ord("a") <= byte <= ord("z")


def is_digit(byte):
    return ord("0") <= byte <= ord("9")


# May this byte stand in a name behind so many signs?
def is_name_sign(byte, behind):
    if behind == 0:
        return is_letter(byte)
    return behind < MOST_SIGNS and (is_letter(byte) or is_digit(byte))


# How many names begin so and aren't used. It can be 0 before a name is whole: 64 strokes
# are enough to use up all 37 names that begin with the same 15 signs.
def names_left(begin, used):
    left = 1
    for length in range(len(begin), MOST_SIGNS):
        left = 1 + NAME_SIGNS * left
    for label in used:
        if label[:len(begin)] == begin:
            left -= 1
    return left


# Goes forward over a text. It steps over a byte only if some drawing's text begins with all
# bytes up to it; so where it can't go on, the bytes it has stepped over are the fault.
class Reader:

    def __init__(self, text):
        self.text = text
        self.at = 0

    def byte(self):
        if self.at < len(self.text):
            return self.text[self.at]
        return NOTHING

    def digit(self):
        if is_digit(self.byte()):
            return self.byte() - ord("0")
        return NOTHING

    def take_signs(self, signs):
        for sign in signs:
            if self.byte() != ord(sign):
                raise NoDrawing(self.at)
            self.at += 1

    # least is 0 or 1: then each beginning of a number that's in the range is in it itself.
    def take_digits(self, least, greatest):
        value = self.digit()
        if value < least or value > greatest:
            raise NoDrawing(self.at)
        self.at += 1
        # A digit behind a 0 or beyond the range is left where it is: what must stand behind
        # a number is no digit, so whoever takes that finds the fault there.
        while value > 0 and self.digit() >= 0 and 10 * value + self.digit() <= greatest:
            value = 10 * value + self.digit()
            self.at += 1
        return value

    # least is 1, 0 or below 0.
    def take_number(self, least, greatest):
        if least < 0 and self.byte() == ord("-"):
            self.at += 1
            return -self.take_digits(1, -least)
        return self.take_digits(max(least, 0), greatest)

    def take_name(self, used):
        label = []
        while is_name_sign(self.byte(), len(label)) and names_left(label + [self.byte()], used) > 0:
            label.append(self.byte())
            self.at += 1
        if label == [] or label in used:
            raise NoDrawing(self.at)
        return label

    def take_place(self, least, most_x, most_y):
        x = self.take_number(least, most_x)
        self.take_signs(",")
        y = self.take_number(least, most_y)
        return (x, y)

    def take_places(self):
        places = []
        while places == [] or (len(places) < MOST_PLACES and self.byte() == ord(" ")):
            self.take_signs(" ")
            places.append(self.take_place(-FARTHEST, FARTHEST, FARTHEST))
        return places

    def take_stroke(self, used):
        self.take_signs("stroke ")
        label = self.take_name(used)
        self.take_signs(" ")
        paint = self.take_number(1, MOST_PAINT)
        self.take_signs(" ")
        brush = self.take_number(0, MOST_BRUSH)
        places = self.take_places()
        self.take_signs("\n")
        return Stroke(label, paint, brush, places)

    def take_strokes(self):
        strokes = []
        used = []
        while len(strokes) < MOST_STROKES and self.byte() == ord("s"):
            strokes.append(self.take_stroke(used))
            used.append(strokes[-1].label)
        return strokes

    # A fill is a tuple: its paint, x, y.
    def take_fill(self, width, height):
        self.take_signs("fill ")
        paint = self.take_number(1, MOST_PAINT)
        self.take_signs(" ")
        point = self.take_place(0, width - 1, height - 1)
        self.take_signs("\n")
        return (paint, point[0], point[1])

    def take_fills(self, width, height):
        fills = []
        while len(fills) < MOST_FILLS and self.byte() == ord("f"):
            fills.append(self.take_fill(width, height))
        return fills

    def take_drawing(self):
        self.take_signs("drawing ")
        label = self.take_name([])
        self.take_signs(" ")
        width = self.take_number(1, MOST_SIDE)
        self.take_signs(" ")
        height = self.take_number(1, MOST_SIDE)
        self.take_signs("\n")
        strokes = self.take_strokes()
        fills = self.take_fills(width, height)
        if self.at < len(self.text):
            raise NoDrawing(self.at)
        return Drawing(label, width, height, strokes, fills)


def read_drawing(t):
    if len(t) > MOST_BYTES:
        raise TooLong()
    return Reader(t).take_drawing()
