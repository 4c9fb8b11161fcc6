"""The rules of a tournament: how their text is read, what is wrong with it, how they are shown."""

# Any other byte makes its word one that is neither a rule's word nor a number.
SIGNS = "\n 0123456789abcdefghijklmnopqrstuvwxyz"

# What counts for a word that isn't told; the words stand in the order in which they're shown.
UNTOLD = {
    "places": (16,),
    "form": (4,),
    "cap": (4,),
    "judges": (1, 2),
    "fee": (1000,),
    "fine": (500,),
    "answer": (3,),
    "start": (60,),
    "back": (),
}

# The least and the most of each number behind a word that has always as many.
BOUNDS = {
    "places": ((2, 60),),
    "form": ((2, 4),),
    "cap": ((1, 9),),
    "judges": ((0, 9), (1, 9)),
    "fee": ((0, 9999),),
    "fine": ((0, 9999),),
    "answer": ((1, 30),),
    "start": ((1, 200),),
}

MOST_DIGITS = 4
MOST_PAIRS = 6
MOST_DAYS = 200
MOST_PERCENT = 100

UNKNOWN_WORD = 1
TOLD_ALREADY = 2
WRONG_NUMBERS = 3


class Rules:
    """The rules as they count."""

    def __init__(self, told):
        """told: for each word its numbers."""
        self.told = told

    def one(self, word):
        """The number of a word that has a single one."""
        return self.told[word][0]

    def judges_owed(self, teams):
        judges = self.told["judges"]
        return (judges[0] * teams + judges[1] - 1) // judges[1]

    def percent(self, day):
        """How much of a fee is given back on this day."""
        ahead = self.one("start") - day
        back = self.told["back"]
        for k in range(0, len(back), 2):
            if ahead >= back[k]:
                return back[k + 1]
        return 0

    def row(self):
        """All numbers but those of back."""
        row = []
        for word in UNTOLD:
            if word != "back":
                row.extend(self.told[word])
        return row

    def shown(self):
        return "\n".join([shown_line(word, self.told[word]) for word in UNTOLD])


def shown_line(word, numbers):
    return " ".join([word] + [str(number) for number in numbers])


def read_lines(numbers):
    """The words of each line of a text that is told as the numbers of its bytes."""
    signs = {}
    for sign in SIGNS:
        signs[ord(sign)] = sign
    text = "".join([signs.get(number, "?") for number in numbers])
    return [words_of(line) for line in text.split("\n")]


def words_of(line):
    return [word for word in line.split(" ") if word != ""]


def first_fault(lines):
    """The kind and the line of what's wrong first, None if nothing is."""
    told = {}
    for at, words in enumerate(lines, start=1):
        if len(words) > 0:
            kind = fault_of(words, told)
            if kind is not None:
                return (kind, at)
            told[words[0]] = True
    return None


def fault_of(words, told):
    if words[0] not in UNTOLD:
        return UNKNOWN_WORD
    if words[0] in told:
        return TOLD_ALREADY
    if not numbers_fit(words[0], words[1:]):
        return WRONG_NUMBERS
    return None


def numbers_fit(word, written):
    if not all([is_number(digits) for digits in written]):
        return False
    numbers = [int(digits) for digits in written]
    if word == "back":
        return pairs_fit(numbers)
    # The one gap within bounds: rooms have 2 or 4 teams.
    if word == "form" and 3 in numbers:
        return False
    return within_bounds(word, numbers)


def is_number(digits):
    if not digits.isdigit() or len(digits) > MOST_DIGITS:
        return False
    return digits == "0" or digits[0] != "0"


def within_bounds(word, numbers):
    if len(numbers) != len(BOUNDS[word]):
        return False
    for number, bound in zip(numbers, BOUNDS[word]):
        if number < bound[0] or number > bound[1]:
            return False
    return True


def pairs_fit(numbers):
    """Whether these are pairs of days and percents, days falling, percents not rising."""
    if len(numbers) % 2 == 1 or len(numbers) > 2 * MOST_PAIRS:
        return False
    for k in range(0, len(numbers), 2):
        if numbers[k] > MOST_DAYS or numbers[k + 1] > MOST_PERCENT:
            return False
        if k > 0 and (numbers[k] >= numbers[k - 2] or numbers[k + 1] > numbers[k - 1]):
            return False
    return True


def rules_of(lines):
    """The rules that lines without a fault tell."""
    told = dict(UNTOLD)
    for words in lines:
        if len(words) > 0:
            told[words[0]] = tuple([int(digits) for digits in words[1:]])
    return Rules(told)
