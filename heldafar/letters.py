"""Letters: what the bodies that houses write to one another point to."""


def pointers_in(body):
    """A tuple of the pointers of a letter in their order, None for what is empty."""
    word = body[0]
    if word == "build":
        return body[2]
    if word == "tell":
        return (body[2], body[4])
    if word == "answer":
        return (body[3],)
    if word in ("hand", "ask"):
        return (body[2],)
    # What parts say, and what goes to and fro for pictures, points to nothing.
    return ()


def names_in(body, part):
    """A tuple of the names that a letter points to, but for those that have lapsed, as that part tells."""
    pointers = [pointer for pointer in pointers_in(body) if pointer is not None]
    return tuple([name for name, extra in pointers if not part.is_over(extra)])
