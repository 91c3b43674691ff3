"""The forms in which acts are written: their numbers, and of what kind their fields are."""

# The acts in the order of their numbers, each with the forms of its fields.
ACTS = (
    ("table", "string"),
    ("column", "spot", "string", "holds"),
    ("unique", "spot", "spots"),
    ("row", "spot"),
    ("drop", "spot"),
    ("put", "spot", "spot", "value"),
    ("refer", "spot", "spot", "place"),
    ("add", "spot", "spot", "integer"),
    ("insert", "spot", "spot", "position", "string"),
    ("remove", "mark"),
    ("undo", "name"),
    ("spend", "spot", "spot", "integer"),
    ("lend", "spot", "spot", "number", "integer"),
    ("lens", "string", "spot", "shown", "fixed"),
)
# What columns hold, in the order of their numbers. References stand behind these.
HOLDS = ("integer", "text", "boolean", "counter", "letters", "stock")
# The public acts.
GRANT = 0
REVOKE = 1
SEAL = 2
