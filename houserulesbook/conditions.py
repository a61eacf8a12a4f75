"""Conditions and sums: read from words, shown as words, and worked out.

A sum is a tuple of terms. A term is its factor (1 or -1), its number, and its name; a term with a name has
the number 0, a term without one the empty name. "time" counts as a name here.

A condition is a tuple that begins with its sign: ("|", parts), ("&", parts), ("~", inner),
("<", left, right) or ("=", left, right), where left and right are sums.
"""

from houserulesbook.reader import NoForm, is_name, is_number

MOST_TERMS = 4
MOST_NESTED = 8
# How tightly a sign binds: what binds less than its surroundings ask for needs parentheses.
TIGHTNESS = {"|": 1, "&": 2, "~": 3, "<": 3, "=": 3}


def read_term(reader, factor):
    word = reader.take()
    if is_number(word):
        return (factor, int(word), "")
    if word == "time" or is_name(word):
        return (factor, 0, word)
    raise NoForm()


def read_sum(reader):
    terms = [read_term(reader, 1)]
    while reader.peek() == "+" or reader.peek() == "-":
        factor = 1 if reader.take() == "+" else -1
        terms.append(read_term(reader, factor))
    if len(terms) > MOST_TERMS:
        raise NoForm()
    return tuple(terms)


def read_comparison(reader):
    left = read_sum(reader)
    sign = reader.take()
    if sign != "<" and sign != "=":
        raise NoForm()
    return (sign, left, read_sum(reader))


def read_single(reader, depth):
    sign = reader.peek()
    if sign != "~" and sign != "(":
        return read_comparison(reader)
    if depth == MOST_NESTED:
        raise NoForm()
    reader.take()
    if sign == "~":
        return ("~", read_single(reader, depth + 1))
    inner = read_condition(reader, depth + 1)
    reader.expect(")")
    return inner


def read_conjunction(reader, depth):
    parts = [read_single(reader, depth)]
    while reader.peek() == "&":
        reader.take()
        parts.append(read_single(reader, depth))
    return ("&", tuple(parts)) if len(parts) > 1 else parts[0]


def read_condition(reader, depth):
    parts = [read_conjunction(reader, depth)]
    while reader.peek() == "|":
        reader.take()
        parts.append(read_conjunction(reader, depth))
    return ("|", tuple(parts)) if len(parts) > 1 else parts[0]


def show_sum(terms):
    words = []
    for factor, number, name in terms:
        words.append("+" if factor == 1 else "-")
        words.append(str(number) if name == "" else name)
    return " ".join(words[1:])


def show_comparison(comparison):
    return " ".join([show_sum(comparison[1]), comparison[0], show_sum(comparison[2])])


def show_part(part, tightness):
    shown = show_condition(part)
    return shown if TIGHTNESS[part[0]] >= tightness else f"( {shown} )"


def show_chain(sign, parts):
    tightness = TIGHTNESS[sign]
    # Chains group from the left, so only the first part may be a chain of the same sign by itself.
    shown = [show_part(parts[0], tightness)]
    for part in parts[1:]:
        shown.append(sign)
        shown.append(show_part(part, tightness + 1))
    return " ".join(shown)


def show_condition(condition):
    sign = condition[0]
    if sign == "|" or sign == "&":
        return show_chain(sign, condition[1])
    if sign == "~":
        return "~ " + show_part(condition[1], TIGHTNESS["~"])
    return show_comparison(condition)


def comparisons(condition):
    sign = condition[0]
    if sign == "~":
        return comparisons(condition[1])
    if sign == "<" or sign == "=":
        return [condition]
    found = []
    for part in condition[1]:
        found.extend(comparisons(part))
    return found


def names_in_sum(terms):
    return [name for factor, number, name in terms if name != "" and name != "time"]


def names_in_condition(condition):
    names = []
    for comparison in comparisons(condition):
        names.extend(names_in_sum(comparison[1]))
        names.extend(names_in_sum(comparison[2]))
    return names


def total(terms, readings):
    result = 0
    for factor, number, name in terms:
        result += factor * (number if name == "" else readings[name])
    return result


def compares(comparison, readings):
    left = total(comparison[1], readings)
    right = total(comparison[2], readings)
    return left < right if comparison[0] == "<" else left == right


def holds(condition, readings):
    sign = condition[0]
    if sign == "<" or sign == "=":
        return compares(condition, readings)
    if sign == "~":
        return not holds(condition[1], readings)
    # The first part that settles a chain is a true one for "|" and a false one for "&".
    settles = sign == "|"
    for part in condition[1]:
        if holds(part, readings) == settles:
            return settles
    return not settles
