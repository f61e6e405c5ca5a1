"""The scenes that decide whether protocols are right, and the texts of scenes."""

from hungparts.catalogs import read_catalog
from hungparts.errors import InvalidText, PartsError
from hungparts.protocols import require_protocol
from hungparts.scenes import is_scene, require_scene
from hungparts.sessions import read_number
from hungparts.weavings import read_turn, turn_text

# Where something can go wrong with a key, it can do so in one of these scenes with the key 0. All changes in them fit,
# since one that does not fit only lets others wait. Parts and rows that are not there cannot let anybody wait or be
# refused, so there are no more of them than what goes wrong needs.
SCENES = (
    # One session alone, beside a row that it may put a second time, move, or find in a part that ought not to have it.
    "a ..\na: 0\nbegin put 0",
    "a ..\na: 0\nbegin strike 0",
    "a ..\na: 0\nbegin read 0",
    "a ..\na: 0\nbegin direct a 0",
    "rest r\nr: 0\nbegin hang n 0..1",
    "empty\nn: 0\nbegin hang n 1..2",
    "a ..\na: 0\nbegin take a",
    "a ..\na: 0\nbegin split a 1 b c",
    "a ..1; b 1..\na: 0\nbegin join a b c",
    # A part of the catalog that does not get the key.
    "a 1..2\nbegin direct a 0",
    # Two sessions that put a row into the same part.
    "a ..\nbegin put 0\nbegin put 0",
    "a ..\nbegin put 0\nbegin direct a 0",
    "a ..\nbegin direct a 0\nbegin direct a 0",
    # A put whose part loses the key.
    "rest r\nbegin put 0\nbegin hang n 0..1",
    "a ..\nbegin put 0\nbegin take a",
    "a ..\nbegin put 0\nbegin split a 1 b c",
    "a ..1; b 1..\nbegin put 0\nbegin join a b c",
    # A strike whose part loses the key. Before a hang it has no part at all, so that it cannot lock it either.
    "empty\nbegin strike 0\nbegin hang n 0..1",
    "a ..\nbegin strike 0\nbegin take a",
    "a ..\nbegin strike 0\nbegin split a 1 b c",
    "a ..1; b 1..\nbegin strike 0\nbegin join a b c",
    # A read, and a row that a change brings to where the key is given, or takes away from there.
    "empty\nn: 0\nbegin read 0\nbegin hang n 0..1",
    "a ..\na: 0\nbegin read 0\nbegin take a",
    "a ..\na: 0\nbegin read 0\nbegin split a 1 b c",
    "a ..1; b 1..\na: 0\nbegin read 0\nbegin join a b c",
    # A row that is put directly into a part that loses the key, or loses it with the part, after a scan or a move.
    "rest r\nbegin direct r 0\nbegin hang n 0..1",
    "a ..\nbegin direct a 0\nbegin split a 1 b c",
    "a ..1; b 1..\nbegin direct a 0\nbegin join a b c",
    # A row that is put directly into a new part that does not get the key.
    "empty\nbegin direct n 0\nbegin hang n 1..2",
    "a ..\nbegin direct c 0\nbegin split a 1 b c",
    "a 1..2; b 2..3\nbegin direct c 0\nbegin join a b c",
    # A row that is put directly into a new part beside one that is moved there.
    "a ..\na: 0\nbegin direct b 0\nbegin split a 1 b c",
    "a ..1; b 1..\na: 0\nbegin direct c 0\nbegin join a b c",
)


def scenes(protocol):
    """Return a list of scenes in one of which something goes wrong if anything can go wrong with a protocol."""
    require_protocol(protocol)
    kinds = protocol.kinds()
    return [scene for scene in all_scenes() if all([asked[0] in kinds for asked in scene[2]])]


def all_scenes():
    """Return the list of the scenes that decide about protocols with all kinds."""
    return [parsed_scene(text) for text in SCENES]


def scene_text(scene):
    """Return the text of a scene."""
    require_scene(scene)
    book, rows, sessions = scene
    parts = sorted([part for part in rows if len(rows[part]) > 0])
    lines = [rows_text(part, rows[part]) for part in parts]
    return "\n".join([str(book), *lines, *[turn_text(asked) for asked in sessions]])


def rows_text(part, keys):
    """Return the text of the rows of a part."""
    numbers = " ".join([str(key) for key in sorted(keys)])
    return f"{part}: {numbers}"


def read_scene(text):
    """Return the scene with a text."""
    if not isinstance(text, str):
        raise InvalidText(text)
    try:
        scene = parsed_scene(text)
    except PartsError:
        raise InvalidText(text) from None
    # Lines that come twice or in another order are read as well, but no scene is written so.
    if not is_scene(scene) or scene_text(scene) != text:
        raise InvalidText(text)
    return scene


def parsed_scene(text):
    """Return what the lines of a text tell of a scene, whatever their order; it may be none."""
    first, *lines = text.split("\n")
    rows = {}
    sessions = []
    for line in lines:
        if line.startswith("begin "):
            sessions.append(read_turn(line))
        else:
            part, keys = read_rows(line)
            rows[part] = keys
    return (read_catalog(first), rows, sessions)


def read_rows(line):
    """Return the part and the keys with a text; whether the part has a name is not checked here."""
    part, _, told = line.partition(": ")
    return part, [read_number(word) for word in told.split(" ")]
