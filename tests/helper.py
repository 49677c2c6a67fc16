"""What the tests share: calls as lists, answers parted again, a small grammar, and drawn changes."""

from hangson.arrows import answers
from tests.naive import assumable

EXAMPLE = """
    S > v; E d > v;
    top S: E { v = 1.v; 1.d = 0; }
    lit E #: { v = # + d; }
    add E: E E { v = 1.v + 2.v; 1.d = d + 1; 2.d = d + 1; ? v < 100; }
"""


def row(name):
    """A text or a list of bytes, with how many they are ahead."""
    numbers = list(name.encode("latin-1")) if isinstance(name, str) else list(name)
    return [len(numbers)] + numbers


def load(text):
    return [0] + row(text)


def arrows(production):
    return [1] + row(production)


def assume(symbol, one, other):
    return [2] + row(symbol) + row(one) + row(other)


def release(symbol, one, other):
    return [3] + row(symbol) + row(one) + row(other)


def graph(kind, symbol):
    return [4, kind] + row(symbol)


def closure(kind, production):
    return [5, kind] + row(production)


def verdict():
    return [6]


def circle(kind):
    return [7, kind]


def way(kind, start, end, production):
    """From and to occurrences, each (place, attribute)."""
    return [8, kind] + list(start) + list(end) + row(production)


def why(symbol, one, other):
    return [9] + row(symbol) + row(one) + row(other)


def spread(symbol, attribute):
    return [10] + row(symbol) + row(attribute)


def rounds():
    return [11]


def parted(told, count):
    """The answers of so many calls, each as its own list; fails if the counts ahead don't fit."""
    parts = []
    place = 0
    while place < len(told):
        end = place + 1 + told[place]
        parts.append(told[place + 1:end])
        if told[place] != len(parts[-1]):
            raise AssertionError(f"an answer is cut short: {told}")
        place = end
    if len(parts) != count:
        raise AssertionError(f"{len(parts)} answers to {count} calls: {told}")
    return parts


def ask(*calls):
    """The answers to these calls on one new object."""
    return parted(answers([number for call in calls for number in call]), len(calls))


def ask_last(*calls):
    return ask(*calls)[-1]


def fours(answer):
    """The arrows of an answer, each as ((place, attribute), (place, attribute))."""
    if answer[0] != 0 or len(answer) % 4 != 1:
        raise AssertionError(f"no list of arrows: {answer}")
    return [((answer[k], answer[k + 1]), (answer[k + 2], answer[k + 3])) for k in range(1, len(answer), 4)]


def twos(answer):
    """The pairs of an answer, each as (attribute, attribute)."""
    if answer[0] != 0 or len(answer) % 2 != 1:
        raise AssertionError(f"no list of pairs: {answer}")
    return [(answer[k], answer[k + 1]) for k in range(1, len(answer), 2)]


def names_of(model, pair):
    """The names by which calls tell a pair of a model."""
    attributes = model.attributes(pair[0])
    return (model.symbols[pair[0]][0], attributes[pair[1]], attributes[pair[2]])


def changed(rng, model):
    """A call that assumes or releases a pair, and what it answers; the model is changed too."""
    pair = rng.choice(assumable(model))
    was_assumed = pair in model.assumed
    if rng.random() < 0.4:
        model.assumed.discard(pair)
        return release(*names_of(model, pair)), [1 if was_assumed else 0]
    model.assumed.add(pair)
    return assume(*names_of(model, pair)), [-8 if was_assumed else 0]
