"""The deeds that are built of others or stand alone, and what they are built of."""

# What a deed tells, its word, the sorts of its parts, and its kind.
DEEDS = [
    ("member", "first", (), "ends"), ("member", "last", (), "ends"),
    ("member", "first", ("set",), "ends"), ("member", "last", ("set",), "ends"),
    ("member", "next", ("member",), "steps"), ("member", "previous", ("member",), "steps"),
    ("set", "all", (), "all"), ("set", "only", ("member",), "only"),
    ("set", "or", ("set", "set"), "sets"), ("set", "and", ("set", "set"), "sets"),
    ("set", "but", ("set", "set"), "sets"),
    ("truth", "is", ("member", "member"), "is"), ("truth", "less", ("member", "member"), "less"),
    ("truth", "in", ("member", "set"), "sets"), ("truth", "empty", ("set",), "sets"),
    ("number", "size", ("set",), "counts"), ("number", "place", ("member",), "counts"),
    ("number", "number", ("member",), "number"), ("text", "text", ("member",), "text"),
]
for SORT in ("member", "set", "truth", "number", "text"):
    DEEDS.append((SORT, "if", ("truth", SORT, SORT), "choices"))
    DEEDS.append((SORT, "else", (SORT, SORT), "choices"))
