"""Names, rules, and the new name that a rule gives to a file. Both are tuples of byte values."""

LONGEST_NAME = 16
LONGEST_RULE = 24


def is_name_sign(sign):
    if ord("a") <= sign <= ord("z") or ord("0") <= sign <= ord("9"):
        return True
    return sign == ord(".") or sign == ord("_") or sign == ord("-")


def is_rule_sign(sign):
    return is_name_sign(sign) or sign == ord("*") or sign == ord("+") or sign == ord("#")


def is_name(signs):
    return 1 <= len(signs) <= LONGEST_NAME and all([is_name_sign(sign) for sign in signs])


def is_rule(signs):
    return 1 <= len(signs) <= LONGEST_RULE and all([is_rule_sign(sign) for sign in signs])


def stem_length(name):
    # A dot at the very front begins no ending, so place 0 is not looked at.
    for place in range(len(name) - 1, 0, -1):
        if name[place] == ord("."):
            return place
    return len(name)


def run_length(rule, place):
    end = place
    while end < len(rule) and rule[end] == rule[place]:
        end += 1
    return end - place


def digits_of(number, width):
    return [ord(digit) for digit in str(number).zfill(width)]


def stand_in(sign, name):
    if sign == ord("*"):
        return name[:stem_length(name)]
    if sign == ord("+"):
        return name[stem_length(name):]
    return (sign,)


def new_name(rule, name, number):
    made = []
    place = 0
    while place < len(rule):
        if rule[place] == ord("#"):
            width = run_length(rule, place)
            digits = digits_of(number, width)
            if len(digits) > width:
                return None
            made.extend(digits)
            place += width
        else:
            made.extend(stand_in(rule[place], name))
            place += 1
    return tuple(made) if is_name(made) else None
