"""The rods of a box: how they are laid and cut, and how their rows are read.

Each call's method answers a list of whole numbers. A refusal is answered by its
number alone (but for the root's, behind which digits are told), and then nothing
has changed.
"""

WRONG = -1
CANNOT_BE_LAID = -3
NOTHING_LAID = -6
ROW_READS_NOUGHT = -7

FACES_OF_A_ROD = 4
MOST_RODS = 12
MOST_DIGITS = 8
MOST_DIGITS_PARTED = 16
MOST_DIGITS_ROOTED = 16
MOST_DIGITS_EXPLAINED = 12
MOST_DIGITS_COUNTED = 3
MOST_IN_A_CELL = 99


def are_digits(numbers, most):
    """Whether there are 1 to most numbers, none of them above 9."""
    return 1 <= len(numbers) <= most and max(numbers) <= 9


def digits_told(number):
    """How many digits the number has, then these, from the left."""
    digits = [int(sign) for sign in str(number)]
    return [len(digits)] + digits


def counted(rows):
    """How many rows there are, then the numbers of each."""
    told = [len(rows)]
    for row in rows:
        told.extend(row)
    return told


def read_cells(cells):
    """What the cells come to, each one worth ten times the next."""
    number = 0
    for cell in cells:
        number = 10 * number + cell
    return number


def find_places(box, digits, used, dead_ends):
    """A rod and a face for each digit, the first digit's rod the least it can be,
    then the second's, and so on; None if the digits can't be laid.

    Used has a bit for each rod that is taken already.
    """
    if not digits:
        return []
    # The same rods, taken in whatever order, leave the same digits and rods over:
    # gone through again and again, alike rods would take millions of steps.
    if used in dead_ends:
        return None
    for number, faces in enumerate(box):
        if digits[0] in faces and not used & (1 << number):
            behind = find_places(box, digits[1:], used | (1 << number), dead_ends)
            if behind is not None:
                return [(number, faces.index(digits[0]))] + behind
    dead_ends[used] = True
    return None


def can_be_laid(box, digits):
    """Whether there is a way to lay the digits with this box."""
    return find_places(box, digits, 0, {}) is not None


def one_digit_longer(box, rows):
    """The rows of one digit more that can be laid, out of all shorter ones that can."""
    # What stands behind the first digit of such a row can be laid, too: no other
    # rows have to be tried.
    longer = []
    for row in rows:
        for digit in range(10):
            if can_be_laid(box, [digit] + row):
                longer.append([digit] + row)
    return longer


def pairs_of_digits(number):
    """The number's digits two by two from the right, the left pair first; of 0 none."""
    pairs = []
    while number > 0:
        pairs.append(number % 100)
        number //= 100
    return list(reversed(pairs))


def root_digit(root, left):
    """The next digit of the root so far, where that much is left."""
    return max([digit for digit in range(10) if (20 * root + digit) * digit <= left])


def numbers_that_read(cells, place, reading):
    """The numbers, other than the cell's own, by which at that place the row reads so."""
    ahead = cells[:place]
    behind = cells[place + 1:]
    return [number for number in range(MOST_IN_A_CELL + 1)
            if number != cells[place] and read_cells(ahead + [number] + behind) == reading]


def greatest_row(readings, left):
    """The greatest row that doesn't read more than what's left."""
    # With flaws a greater row may read less, so that every row is looked at.
    return max([k for k, reading in enumerate(readings) if reading <= left])


class Rods:
    """A box of rods, the flaws that were cut into it, and what is laid."""

    def __init__(self):
        self.box = []
        # Rod, face and row of each flaw, with what stands there: those cut last
        # stand last.
        self.flaws = {}
        # Rod and face of each digit that is laid, from the left.
        self.laid = []

    def begin(self, faces):
        """Takes this box, without flaws, nothing laid."""
        if not are_digits(faces, FACES_OF_A_ROD * MOST_RODS):
            return [WRONG]
        self.box = [faces[start:start + FACES_OF_A_ROD]
                    for start in range(0, len(faces), FACES_OF_A_ROD)]
        self.flaws = {}
        self.laid = []
        return [0]

    def lay(self, digits):
        """Lays the number instead of what was laid."""
        if not are_digits(digits, MOST_DIGITS):
            return [WRONG]
        places = find_places(self.box, digits, 0, {})
        if places is None:
            return [CANNOT_BE_LAID]
        self.laid = places
        told = [0]
        for rod, face in places:
            told.append(rod)
            told.append(face)
        return told

    def is_cell(self, rod, face, k):
        """Whether there is such a rod, such a face and such a row."""
        return rod < len(self.box) and face < FACES_OF_A_ROD and 1 <= k <= 9

    def cut(self, rod, face, k, number):
        """Lets the number stand in that cell from now on."""
        if not self.is_cell(rod, face, k) or number > MOST_IN_A_CELL:
            return [WRONG]
        cell = (rod, face, k)
        # Taken out first: a flaw that is cut again goes to the end of the order.
        self.flaws.pop(cell, None)
        if number != k * self.box[rod][face]:
            self.flaws[cell] = number
        return [len(self.flaws)]

    def row_cells(self, k):
        """The cells of row k, from the left; row 0 has none."""
        if k == 0:
            return []
        return [self.flaws.get((rod, face, k), k * self.box[rod][face]) for rod, face in self.laid]

    def read_row(self, k):
        """What row k reads."""
        return read_cells(self.row_cells(k))

    def row(self, k):
        """Tells the cells of row k, and what it reads."""
        if k > 9:
            return [WRONG]
        if not self.laid:
            return [NOTHING_LAID]
        cells = self.row_cells(k)
        return [len(cells)] + cells + digits_told(read_cells(cells))

    def by(self, digits):
        """Multiplies what's laid: tells the product, then what each digit's row reads."""
        if not are_digits(digits, MOST_DIGITS):
            return [WRONG]
        if not self.laid:
            return [NOTHING_LAID]
        product = 0
        rows = []
        for digit in digits:
            reading = self.read_row(digit)
            product = 10 * product + reading
            rows.extend(digits_told(reading))
        return digits_told(product) + rows

    def into(self, digits):
        """Parts the number by what's laid: tells the quotient, and what's left."""
        if not are_digits(digits, MOST_DIGITS_PARTED):
            return [WRONG]
        if not self.laid:
            return [NOTHING_LAID]
        readings = [self.read_row(k) for k in range(10)]
        if 0 in readings[1:]:
            return [ROW_READS_NOUGHT]
        quotient = 0
        left = 0
        for digit in digits:
            left = 10 * left + digit
            k = greatest_row(readings, left)
            quotient = 10 * quotient + k
            left -= readings[k]
        return digits_told(quotient) + digits_told(left)

    def root(self, digits):
        """Tells the number's root, and what's left; or what can't be laid on the way."""
        if not are_digits(digits, MOST_DIGITS_ROOTED):
            return [WRONG]
        root = 0
        left = 0
        for pair in pairs_of_digits(read_cells(digits)):
            twice = digits_told(2 * root)
            # Ahead of the first pair there is no root yet that could be laid.
            if root > 0 and not can_be_laid(self.box, twice[1:]):
                return [CANNOT_BE_LAID] + twice
            left = 100 * left + pair
            digit = root_digit(root, left)
            left -= (20 * root + digit) * digit
            root = 10 * root + digit
        return digits_told(root) + digits_told(left)

    def multiples(self, k):
        """K times each digit that's laid, from the left: flaws don't matter."""
        return [k * self.box[rod][face] for rod, face in self.laid]

    def arrows(self, k):
        """Tells for each digit, from the right, what row k hands on, and the units."""
        if k > 9:
            return [WRONG]
        if not self.laid:
            return [NOTHING_LAID]
        told = []
        handed_on = 0
        for multiple in reversed(self.multiples(k)):
            number = multiple + handed_on
            handed_on = number // 10
            told.append(handed_on)
            told.append(number % 10)
        return told

    def explain(self, k, digits):
        """Tells each one cell, with a number in it, by which row k would be read so."""
        if not 1 <= k <= 9 or not are_digits(digits, MOST_DIGITS_EXPLAINED):
            return [WRONG]
        if not self.laid:
            return [NOTHING_LAID]
        multiples = self.multiples(k)
        reading = read_cells(digits)
        found = []
        for place, rod_and_face in enumerate(self.laid):
            for number in numbers_that_read(multiples, place, reading):
                found.append(rod_and_face + (number,))
        return counted(found)

    def count_rows(self, n):
        """Tells how many rows of n digits can be laid."""
        if not 1 <= n <= MOST_DIGITS_COUNTED:
            return [WRONG]
        rows = [[]]
        for length in range(n):
            rows = one_digit_longer(self.box, rows)
        return [len(rows)]

    def show(self):
        """Tells the rods' faces, the flaws, and what is laid."""
        flaws = [cell + (number,) for cell, number in self.flaws.items()]
        return counted(self.box) + counted(flaws) + counted(self.laid)
