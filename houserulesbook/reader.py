"""The words of a command, and how names and numbers are taken from them one by one."""

# The sign of each byte from 32 to 126. A sign that stands in no command is told as a question mark,
# which is no word's sign either, so that such a command has no form.
SIGNS = (
    " ?????&?()?+?-??0123456789??<=??"
    "????????????????????????????????"
    "?abcdefghijklmnopqrstuvwxyz?|?~"
)
NO_NAMES = ("time", "if", "then", "is", "after")
LONGEST_NAME = 8
LONGEST_NUMBER = 5


class NoForm(Exception):
    pass


class Reader:
    def __init__(self, words):
        self.words = words
        self.place = 0

    # Behind the last word comes the empty one: it fits nowhere, so whoever takes it finds no form.
    def peek(self):
        return self.words[self.place] if self.place < len(self.words) else ""

    def take(self):
        word = self.peek()
        self.place += 1
        return word

    def expect(self, word):
        if self.take() != word:
            raise NoForm()

    def finish(self):
        if self.place != len(self.words):
            raise NoForm()


def words_of(command):
    text = "".join([SIGNS[byte - 32] for byte in command])
    return text.split(" ")


def is_name(word):
    return len(word) <= LONGEST_NAME and word.isalpha() and word not in NO_NAMES


def is_number(word):
    return len(word) <= LONGEST_NUMBER and word.isdigit() and (word == "0" or word[0] != "0")


def take_name(reader):
    word = reader.take()
    if not is_name(word):
        raise NoForm()
    return word


def take_number(reader, least, most):
    word = reader.take()
    if not is_number(word) or not least <= int(word) <= most:
        raise NoForm()
    return int(word)
