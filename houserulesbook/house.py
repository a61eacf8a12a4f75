"""The calls on a house: commands come and answers go as numbers."""

from houserulesbook.changes import change
from houserulesbook.forms import read_arguments
from houserulesbook.model import House
from houserulesbook.queries import answer_query, is_query
from houserulesbook.reader import NoForm, words_of

LONGEST_COMMAND = 160
LEAST_BYTE = 32
MOST_BYTE = 126


def is_text(command):
    return len(command) <= LONGEST_COMMAND and all([LEAST_BYTE <= byte <= MOST_BYTE for byte in command])


def reply(house, words):
    try:
        arguments = read_arguments(words)
    except NoForm:
        return "no form"
    if is_query(words[0]):
        return answer_query(house, words[0], arguments)
    return change(house, words[0], arguments)


def say(house, command):
    if not is_text(command):
        return [-1]
    text = reply(house, words_of(command))
    return [len(text)] + [ord(sign) for sign in text]


def answers(calls):
    house = House()
    results = []
    place = 0
    while place < len(calls):
        # A call: its number, how many numbers the command has, these, and that there are no lists.
        size = calls[place + 1]
        start = place + 2
        answer = say(house, calls[start:start + size])
        results.append(len(answer))
        results.extend(answer)
        place = start + size + 1
    return results
