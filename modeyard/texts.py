"""Works, lists of numbers and ratios, written as texts and read."""

from modeyard.errors import NoGood, NoText
from modeyard.yards import is_name

MOST_FIGURES = 30


def figures(number):
    # Python itself does not write out numbers of some thousand figures, and a ratio may have as many.
    left = abs(number)
    written = ""
    while left >= 10 ** 60:
        written = str(left % 10 ** 60).zfill(60) + written
        left = left // 10 ** 60
    written = str(left) + written
    if number < 0:
        return "-" + written
    return written


def is_number(word):
    if len(word) < 1 or len(word) > MOST_FIGURES:
        return False
    if not all(["0" <= sign <= "9" for sign in word]):
        return False
    return word == "0" or word[0] != "0"


def is_amount(word):
    return is_number(word) and word != "0"


def show_number(number, name):
    return figures(number) + " " + name


def show_parts(parts):
    return [show_number(amount, good) for good, amount in parts]


def show_work(work):
    return " ".join([work[0] + ":"] + show_parts(work[1]) + [">"] + show_parts(work[2]))


def check_written(holds):
    if not holds:
        raise NoText("a work is written like this: mill: 2 corn 1 water > 3 flour")


def read_parts(words):
    amounts = words[0::2]
    goods = words[1::2]
    check_written(len(amounts) == len(goods))
    check_written(all([is_amount(word) for word in amounts]))
    check_written(all([is_name(word) for word in goods]))
    return [(good, int(amount)) for good, amount in zip(goods, amounts)]


def check_once(parts):
    if len(set([good for good, amount in parts])) < len(parts):
        raise NoGood("a good comes a second time in one list")


def read_work(text):
    words = text.split(" ")
    name = words[0][:-1]
    check_written(words[0].endswith(":") and is_name(name))
    check_written(words.count(">") == 1)
    middle = words.index(">")
    uses = read_parts(words[1:middle])
    makes = read_parts(words[middle + 1:])
    check_once(uses)
    check_once(makes)
    return (name, uses, makes)


def show_list(numbers, names):
    told = [show_number(number, name) for number, name in zip(numbers, names) if number != 0]
    if not told:
        return "nothing"
    return " ".join(told)


def show_ratio(one):
    if one[1] == 1:
        return figures(one[0])
    return figures(one[0]) + "/" + figures(one[1])
