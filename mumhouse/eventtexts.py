"""Events and logs written as lines."""

from mumhouse.housetexts import expression_text, house_lines, integers_text, world_text


def event_line(event):
    """Return the line of an event by kind."""
    word = event[0]
    if word in ("aloud", "outside"):
        return f"{word} {expression_text(event[1])}"
    if word == "permit":
        return f"permit {event[1]} {expression_text(event[2])}"
    if word == "secret":
        return f"secret {secret_words(event[1:])}"
    return " ".join([str(item) for item in event])


def log_lines(log):
    """Return the list of the lines of a log."""
    _, scene, world, rule, permits = log[0]
    house, askers, secrets, few = scene
    lines_of_house = house_lines(house)
    counts = f"{len(lines_of_house)} {len(secrets)} {len(permits)}"
    return [
        f"service {rule} {few} {names_word(askers)} {counts}",
        *lines_of_house,
        f"world {world_text(world)}",
        *[f"secret {secret_words(secret)}" for secret in secrets],
        *[f"permit {permit_words(permit)}" for permit in permits],
        *[event_line(event) for event in log[1:]],
    ]


def names_word(names):
    """Return the word of a set of names, - if it is empty."""
    return ",".join(names) if names else "-"


def grouping_word(groups):
    """Return the word of a grouping: 0;1,2."""
    return ";".join([integers_text(group) for group in groups])


def secret_words(secret):
    """Return the words of a secret (statement, knowers), the knowers first."""
    statement, knowers = secret
    return f"{names_word(knowers)} {expression_text(statement)}"


def permit_words(permit):
    """Return the words of a permit (asker, ask, grouping), the ask last."""
    asker, ask, grouping = permit
    return f"{asker} {grouping_word(grouping)} {expression_text(ask)}"
