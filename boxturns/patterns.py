"""Whether a value is like a pattern, and what the pattern keeps of it."""

from boxturns.pairs import NUMBER, TWO


# Gives back the variables with what was kept ahead of them, or None if the value isn't like the pattern.
def with_kept(pairs, pattern, value, variables):
    ahead = [(pattern, value)]
    while len(ahead) > 0:
        looked_at = ahead.pop()
        wanted = looked_at[0]
        part = looked_at[1]
        if wanted[0] == 1:
            variables = (part,) + variables
        elif wanted[0] == 2 and part != (NUMBER, wanted[1]):
            return None
        elif wanted[0] == 3 and not is_variable(variables, wanted[1], part):
            return None
        elif wanted[0] == 4:
            if part[0] != TWO:
                return None
            # The first value goes on top: what it keeps must be there when the second is looked at.
            ahead.append((wanted[2], pairs.second(part)))
            ahead.append((wanted[1], pairs.first(part)))
    return variables


def is_variable(variables, place, value):
    return place < len(variables) and variables[place] == value
