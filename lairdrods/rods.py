"""The rods of a box: how they are laid and cut, and how their rows are read.

Each call's method answers a list of whole numbers. A refusal is answered by its
number alone, and then nothing has changed.
"""

WRONG = -1
CANNOT_BE_LAID = -3
NOTHING_LAID = -6
ROW_READS_NOUGHT = -7

FACES_OF_A_ROD = 4
MOST_RODS = 12
MOST_DIGITS = 8
MOST_DIGITS_PARTED = 16
MOST_IN_A_CELL = 99


def are_digits(numbers, most):
    """Whether there are 1 to most numbers, none of them above 9."""
    return 1 <= len(numbers) <= most and max(numbers) <= 9


def digits_told(number):
    """How many digits the number has, then these, from the left."""
    digits = [int(sign) for sign in str(number)]
    return [len(digits)] + digits


def read_cells(cells):
    """What the cells come to, each one worth ten times the next."""
    number = 0
    for cell in cells:
        number = 10 * number + cell
    return number


def find_places(box, digits, used, dead_ends):
    """A rod and a face for each digit, the first digit's rod the least it can be,
    then the second's, and so on; None if the digits can't be laid.

    Used has a bit for each rod that is taken already.
    """
    if not digits:
        return []
    # The same rods, taken in whatever order, leave the same digits and rods over:
    # gone through again and again, alike rods would take millions of steps.
    if used in dead_ends:
        return None
    for number, faces in enumerate(box):
        if digits[0] in faces and not used & (1 << number):
            behind = find_places(box, digits[1:], used | (1 << number), dead_ends)
            if behind is not None:
                return [(number, faces.index(digits[0]))] + behind
    dead_ends[used] = True
    return None


def greatest_row(readings, left):
    """The greatest row that doesn't read more than what's left."""
    # With flaws a greater row may read less, so that every row is looked at.
    return max([k for k, reading in enumerate(readings) if reading <= left])


class Rods:
    """A box of rods, the flaws that were cut into it, and what is laid."""

    def __init__(self):
        self.box = []
        # Rod, face and row of each flaw, with what stands there: those cut last
        # stand last.
        self.flaws = {}
        # Rod and face of each digit that is laid, from the left.
        self.laid = []

    def begin(self, faces):
        """Takes this box, without flaws, nothing laid."""
        if not are_digits(faces, FACES_OF_A_ROD * MOST_RODS):
            return [WRONG]
        self.box = [faces[start:start + FACES_OF_A_ROD]
                    for start in range(0, len(faces), FACES_OF_A_ROD)]
        self.flaws = {}
        self.laid = []
        return [0]

    def lay(self, digits):
        """Lays the number instead of what was laid."""
        if not are_digits(digits, MOST_DIGITS):
            return [WRONG]
        places = find_places(self.box, digits, 0, {})
        if places is None:
            return [CANNOT_BE_LAID]
        self.laid = places
        told = [0]
        for rod, face in places:
            told.append(rod)
            told.append(face)
        return told

    def is_cell(self, rod, face, k):
        """Whether there is such a rod, such a face and such a row."""
        return rod < len(self.box) and face < FACES_OF_A_ROD and 1 <= k <= 9

    def cut(self, rod, face, k, number):
        """Lets the number stand in that cell from now on."""
        if not self.is_cell(rod, face, k) or number > MOST_IN_A_CELL:
            return [WRONG]
        cell = (rod, face, k)
        # Taken out first: a flaw that is cut again goes to the end of the order.
        self.flaws.pop(cell, None)
        if number != k * self.box[rod][face]:
            self.flaws[cell] = number
        return [len(self.flaws)]

    def row_cells(self, k):
        """The cells of row k, from the left; row 0 has none."""
        if k == 0:
            return []
        return [self.flaws.get((rod, face, k), k * self.box[rod][face]) for rod, face in self.laid]

    def read_row(self, k):
        """What row k reads."""
        return read_cells(self.row_cells(k))

    def row(self, k):
        """Tells the cells of row k, and what it reads."""
        if k > 9:
            return [WRONG]
        if not self.laid:
            return [NOTHING_LAID]
        cells = self.row_cells(k)
        return [len(cells)] + cells + digits_told(read_cells(cells))

    def by(self, digits):
        """Multiplies what's laid: tells the product, then what each digit's row reads."""
        if not are_digits(digits, MOST_DIGITS):
            return [WRONG]
        if not self.laid:
            return [NOTHING_LAID]
        product = 0
        rows = []
        for digit in digits:
            reading = self.read_row(digit)
            product = 10 * product + reading
            rows.extend(digits_told(reading))
        return digits_told(product) + rows

    def into(self, digits):
        """Parts the number by what's laid: tells the quotient, and what's left."""
        if not are_digits(digits, MOST_DIGITS_PARTED):
            return [WRONG]
        if not self.laid:
            return [NOTHING_LAID]
        readings = [self.read_row(k) for k in range(10)]
        if 0 in readings[1:]:
            return [ROW_READS_NOUGHT]
        quotient = 0
        left = 0
        for digit in digits:
            left = 10 * left + digit
            k = greatest_row(readings, left)
            quotient = 10 * quotient + k
            left -= readings[k]
        return digits_told(quotient) + digits_told(left)
