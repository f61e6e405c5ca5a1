"""Steps and programs: what sessions of each kind may have to do, and in which order."""

from hungparts.errors import NoProgram
from hungparts.words import is_name

MOST_STEPS = 12

KINDS = ("put", "strike", "read", "direct", "hang", "take", "split", "join")

# What sessions of each kind may lock; the third item of such a step is a mode.
LOCKS = {
    "put": ("table", "part"),
    "strike": ("table", "part"),
    "read": ("table", "part"),
    "direct": ("part",),
    "hang": ("table", "new", "rest"),
    "take": ("table", "old", "rest"),
    "split": ("table", "old", "new", "rest"),
    "join": ("table", "old", "new", "rest"),
}

# The other steps that sessions of each kind may have.
STEPS = {
    "put": (("look",), ("again",), ("key",), ("put",), ("claim",), ("end",)),
    "strike": (("look",), ("again",), ("strike",), ("end",)),
    "read": (("look",), ("again",), ("view",), ("read",), ("end",)),
    "direct": (("border",), ("key",), ("put",), ("claim",), ("end",)),
    "hang": (("scan", "new"), ("scan", "rest"), ("switch",), ("wait",), ("close",), ("end",)),
    "take": (("switch",), ("wait",), ("close",), ("end",)),
    "split": (("move",), ("switch",), ("wait",), ("close",), ("end",)),
    "join": (("move",), ("switch",), ("wait",), ("close",), ("end",)),
}

# Of each of these groups of steps, a program of the kind has exactly one step.
NEEDED = {
    "put": (("look",), ("put", "claim")),
    "strike": (("look",), ("strike",)),
    "read": (("look",), ("view",), ("read",)),
    "direct": (("put", "claim"),),
    "hang": (("switch", "close"),),
    "take": (("switch", "close"),),
    "split": (("switch", "close"), ("move",)),
    "join": (("switch", "close"), ("move",)),
}

# Of each of these steps, a program has at most one.
AT_MOST_ONCE = ("border", "key", "scan new", "scan rest")

# Where a program has steps of both groups, those of the first one come before those of the second one.
ORDERS = (
    (("look",), ("lock part", "again", "key", "put", "claim", "strike", "read")),
    (("view",), ("read",)),
    (("border", "key", "again"), ("put", "claim", "strike", "read")),
    (("move", "scan new", "scan rest"), ("switch", "close")),
    (("switch",), ("wait",)),
)


def is_kind(value):
    """Tell whether any value is one of the eight kinds of sessions."""
    return value in KINDS


def require_kind(value):
    """Raise NoProgram for any value that is not a kind."""
    if not is_kind(value):
        raise NoProgram(value)


def is_step(value, kind):
    """Tell whether any value is a step that sessions of a kind may have."""
    require_kind(kind)
    if not isinstance(value, tuple):
        return False
    if len(value) == 3:
        word, thing, mode = value
        return word == "lock" and thing in LOCKS[kind] and is_name(mode)
    return value in STEPS[kind]


def is_program(value, kind):
    """Tell whether any value is a program of a kind."""
    require_kind(kind)
    if not isinstance(value, list) or not 1 <= len(value) <= MOST_STEPS:
        return False
    if not all([is_step(step, kind) for step in value]):
        return False
    # The modes of locks do not matter here.
    words = [step_text(step[:2]) for step in value]
    return ends_well(words) and has_needed(words, kind) and is_in_order(words)


def ends_well(words):
    """Tell whether the last step ends the session, and no other one."""
    return [at for at, word in enumerate(words) if word in ("end", "close")] == [len(words) - 1]


def has_needed(words, kind):
    """Tell whether no step is missing, and none is there too often."""
    if not all([len([word for word in words if word in group]) == 1 for group in NEEDED[kind]]):
        return False
    if "wait" in words and "switch" not in words:
        return False
    return all([words.count(word) <= 1 for word in AT_MOST_ONCE])


def is_in_order(words):
    """Tell whether all steps come before those that they have to come before."""
    return all([comes_before(words, earlier, later) for earlier, later in ORDERS])


def comes_before(words, earlier, later):
    """Tell whether no step of the first group stands behind a step of the second one."""
    last = max([at for at, word in enumerate(words) if word in earlier], default=-1)
    first = min([at for at, word in enumerate(words) if word in later], default=len(words))
    return last < first


def step_text(step):
    """Return the text of a step."""
    return " ".join(step)


def program_text(program):
    """Return the text of a program."""
    return ", ".join([step_text(step) for step in program])
