"""Events: what stands behind the word of each."""

# All events but ("torn", event, keep): the sorts of their parts.
EVENT_PARTS = {
    "tick": (), "keeper": (), "again": (), "lapse": ("job",), "work": ("machine",), "hear": ("number",),
    "lose": ("number",), "double": ("number",), "fall": ("who",), "back": ("who",),
}

# Those that may be torn.
TEARABLE = ("tick", "hear", "work", "back")
