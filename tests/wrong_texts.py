"""Texts that every call refuses, each with its first wrong line."""

WRONG_TEXTS = (
    ("A", 0), ("A ->", 0), ("-> A", 0), ("A -> B -> C", 0), ("A - > B", 0), ("A = B", 0), ("0A -> B", 0),
    ("100A -> B", 0), ("01A -> B", 0), ("99A + A -> B", 0), ("A + 0 -> B", 0), ("A B -> C", 0), ("_A -> B", 0),
    ("A" * 17 + " -> B", 0), ("A\t-> B", 0), ("A -> \xc4", 0), ("A -> B\nA", 1), ("\n# one\n  \nA -> 2", 3),
    ("A -> B\nB <- C\nA\n", 1), ("A -> B\n" * 25, 24), ("A <-> B\n" * 13, 12), ("A -> B\n" * 23 + "A <-> B", 23),
    ("\n" + " + ".join("s%d" % k for k in range(25)) + " -> 0", 1), ("\n" * 1999 + "A", 1999),
)
