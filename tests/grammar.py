"""What texts can be read, told as expressions that are led on character by character.

An expression is led on by a character to the one of all that may still follow; where nothing
may follow, the text can't be read from that character on. This does not use the program.
"""

import functools
import string

EPS = ("eps",)


def chars(signs):
    return ("chars", frozenset(signs))


def seq(*parts):
    told = EPS
    for part in reversed(parts):
        part = text(part) if isinstance(part, str) else part
        if part is None or told is None:
            return None
        if part == EPS:
            continue
        told = part if told == EPS else ("seq", part, told)
    return told


def text(signs):
    told = EPS
    for sign in reversed(signs):
        told = chars(sign) if told == EPS else ("seq", chars(sign), told)
    return told


def alt(*parts):
    found = set()
    for part in parts:
        part = text(part) if isinstance(part, str) else part
        if part is not None:
            found |= part[1] if part[0] == "alt" else {part}
    if not found:
        return None
    return next(iter(found)) if len(found) == 1 else ("alt", frozenset(found))


def rep(part, least, most):
    return EPS if most == 0 else ("rep", part, least, most)


def ref(name, number):
    return ("ref", name, number)


@functools.lru_cache(maxsize=None)
def may_end(told):
    kind = told[0]
    if kind == "eps":
        return True
    if kind == "chars":
        return False
    if kind == "seq":
        return may_end(told[1]) and may_end(told[2])
    if kind == "alt":
        return any(may_end(part) for part in told[1])
    if kind == "rep":
        return told[2] == 0 or may_end(told[1])
    return may_end(RULES[told[1]](told[2]))


@functools.lru_cache(maxsize=None)
def led_on(told, sign):
    kind = told[0]
    if kind == "eps":
        return None
    if kind == "chars":
        return EPS if sign in told[1] else None
    if kind == "seq":
        first = seq(led_on(told[1], sign), told[2])
        return alt(first, led_on(told[2], sign)) if may_end(told[1]) else first
    if kind == "alt":
        return alt(*(led_on(part, sign) for part in told[1]))
    if kind == "rep":
        return seq(led_on(told[1], sign), rep(told[1], max(told[2] - 1, 0), told[3] - 1))
    return led_on(RULES[told[1]](told[2]), sign)


def wrong_place(told, signs):
    """The place that is refused, or None if the text can be read."""
    for place, sign in enumerate(signs):
        told = led_on(told, sign)
        if told is None:
            return place
    return None if may_end(told) else len(signs)


def line_and_column(signs, place):
    ahead = signs[:place]
    return ahead.count("\n"), len(ahead) - (ahead.rfind("\n") + 1)


def number(most):
    return alt("0", seq(chars("123456789"), rep(chars(string.digits), 0, most - 1)))


NAME = rep(chars(string.ascii_lowercase), 1, 12)
SIGN = chars("01234567")


def word(most):
    return alt("-", rep(chars("012"), 1, most))


def net(ahead, most=56):
    """Nets of up to so many integers a line."""
    lines = [seq(ahead, number(3), rep(seq(" ", number(3)), many - 1, many - 1)) for many in range(4, most + 1)]
    return alt(*(seq(line, "\n", line, "\n", line) for line in lines))


def step(most):
    return seq(number(2), ":", word(most))


def deed(ahead, least=1, most=48):
    line = seq(ahead, step(60), " ", step(60), " ", step(60))
    return seq(line, rep(seq("\n", line), least - 1, most - 1))


def script(rows):
    """A script around which ten rows less so many may stand."""
    base = NAME
    if rows > 0:
        inner = ref("script", rows - 1)
        base = alt(base, seq("(", rep(seq(inner, rep(seq(" ", inner), 0, 59)), 0, 1), ")"))
    return seq(base, rep(seq("*", number(30)), 0, 2))


RULES = {"script": script}
SCRIPT = ref("script", 10)


def sheet():
    many = number(30)
    entry = alt(seq("net ", NAME, "\n", net("- ")), seq("deed ", NAME, "\n", deed("- ")),
                seq("script ", NAME, "\n- ", SCRIPT))
    verdict = alt(seq("whole ", NAME), seq("alike ", NAME, " ", NAME), seq("makes ", NAME, " ", NAME, " ", NAME),
                  seq("counts ", NAME, " ", NAME, " ", many, " ", many, " ", many),
                  seq("dyes ", NAME, " ", SIGN, " ", alt(SIGN, "never")),
                  seq("leads ", NAME, " ", many, " ", word(60), " ", many))
    return seq(rep(seq(entry, "\n"), 0, 999), verdict, rep(seq("\n", verdict), 0, 999))


def log(most=4):
    """Logs whose deeds in swaps have up to so many cells."""
    short = number(2)
    swaps = [seq("swap ", short, "\n", deed("- ", many, many), rep(seq("\n= ", step(1000)), many, many))
             for many in range(1, most + 1)]
    address = seq(number(3), rep(seq(".", number(3)), 0, 60))
    each = alt(seq("enter\n", deed("- ")), seq("late ", short, "\n", deed("- ")), seq("strike ", short), seq("melt ", short),
               seq("pin ", NAME, " ", address), seq("unpin ", NAME), *swaps)
    steps = rep(seq("\n", each), 0, 999)
    return seq(net(""), steps, rep(seq("\nundone\n", each, steps), 0, 1))


def spoilt_texts(rng, signs, many, more=""):
    """Texts with something left out, doubled, put in, exchanged or cut off at some place."""
    others = sorted(set("019:-.* ()abz=\n" + more + signs[:50]))
    for _ in range(many):
        at = rng.randrange(len(signs) + 1)
        other = rng.choice(others)
        yield rng.choice((
            signs[:at] + signs[at + 1:], signs[:at] + signs[at:at + 1] + signs[at:], signs[:at] + other + signs[at:],
            signs[:at] + other + signs[at + 1:], signs[:at], signs[:at] + signs[at:at + 2][::-1] + signs[at + 2:],
            signs + other, signs[at:]))
