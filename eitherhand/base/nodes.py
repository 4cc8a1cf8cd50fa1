"""Nodes in preorder: they are checked, written, read, taken apart and put together.

`is_node` takes any value, and the next three functions any tuple of single nodes; all behind
them need the nodes of a promise.
"""

from eitherhand.base.words import is_fact, is_integer

LEAST_PARTS = 2
MOST_PARTS = 4
SIGNS = {"all": " & ", "mine": " + ", "some": " | ", "yours": " * "}
SIGNED = {"&": "all", "+": "mine", "|": "some", "*": "yours"}
TURNED = {
    "all": "some", "fact": "not", "mine": "yours", "no": "yes",
    "not": "fact", "some": "all", "yes": "no", "yours": "mine",
}


def is_node(value):
    """Whether the value is a node of a known kind."""
    if not isinstance(value, tuple) or len(value) != 2:
        return False
    kind, told = value
    if not isinstance(kind, str):
        return False
    if kind in ("fact", "not"):
        return is_fact(told)
    if kind in ("yes", "no"):
        return is_integer(told) and told == 0
    return kind in SIGNS and is_integer(told) and LEAST_PARTS <= told <= MOST_PARTS


def depth_of(nodes):
    """How deep the nodes are, or 0 if parts are missing or left over."""
    missing = [1]
    deepest = 0
    for kind, told in nodes:
        while missing and missing[-1] == 0:
            missing.pop()
        if not missing:
            return 0
        missing[-1] = missing[-1] - 1
        deepest = max(deepest, len(missing))
        if kind in SIGNS:
            missing.append(told)
    return deepest if sum(missing) == 0 else 0


def facts_of(nodes):
    """The ascending tuple of the facts of which the nodes speak."""
    return tuple(sorted({told for kind, told in nodes if kind in ("fact", "not")}))


def choices_of(nodes):
    """How many of the nodes are choices."""
    return len([kind for kind, _ in nodes if kind in ("mine", "yours")])


def text_of(nodes):
    """The text of the promise with these nodes."""
    texts = []
    # From behind, the parts of each node are written before it; the first part comes last.
    for kind, told in reversed(list(nodes)):
        if kind in SIGNS:
            parts = []
            for _ in range(told):
                parts.append(texts.pop())
            texts.append(bracketed(kind, parts))
        else:
            texts.append(plain_text(kind, told))
    return texts[0]


def bracketed(kind, parts):
    """The text of a node over the texts of its parts."""
    inner = SIGNS[kind].join(parts)
    return "[" + inner + "]" if kind in ("mine", "yours") else "(" + inner + ")"


def plain_text(kind, told):
    """The text of a plain node."""
    if kind == "fact":
        return told
    return "!" + told if kind == "not" else kind


def nodes_in(text):
    """The nodes of the promise with this text.

    Another text gives pairs, too, which can even be the nodes of a promise. So whoever reads
    a text asks whether the nodes are some, and are written just so: this refuses all that is
    amiss, and nothing of it needs to be noticed here.
    """
    kinds = []
    counts = []
    around = []
    for word in _split(text):
        if word in ("(", "["):
            around.append(len(kinds))
            kinds.append("")
            counts.append(1)
        elif word in SIGNED and around:
            kinds[around[-1]] = SIGNED[word]
            counts[around[-1]] += 1
        elif word in (")", "]") and around:
            around.pop()
        else:
            kind, told = _plain_node(word)
            kinds.append(kind)
            counts.append(told)
    return tuple([(kinds[at], counts[at]) for at in range(len(kinds))])


def _split(text):
    """The brackets, signs and plain words of a text."""
    spaced = text.replace("(", "( ").replace("[", "[ ").replace(")", " )").replace("]", " ]")
    return spaced.split(" ")


def _plain_node(word):
    """The plain node that a word without brackets tells."""
    if word in ("yes", "no"):
        return (word, 0)
    return ("not", word[1:]) if word.startswith("!") else ("fact", word)


def turned(nodes):
    """The nodes of the promise turned round."""
    return tuple([(TURNED[kind], told) for kind, told in nodes])


def joined(kind, parts):
    """The nodes of a node of this kind over parts, each told by its nodes."""
    found = [(kind, len(parts))]
    for part in parts:
        found.extend(part)
    return tuple(found)


def parts_of(nodes):
    """The list of the nodes of each part of the first node."""
    found = []
    start = 1
    while start < len(nodes):
        end = end_of(nodes, start)
        found.append(nodes[start:end])
        start = end
    return found


def end_of(nodes, start):
    """The index behind the part that starts at an index."""
    missing = 1
    end = start
    while missing > 0:
        kind, told = nodes[end]
        missing = missing - 1 + (told if kind in SIGNS else 0)
        end = end + 1
    return end


def has_part(nodes, part):
    """Whether some nodes are those of a part, of a part of a part and so on, or of the whole."""
    # The nodes of no promise are only the beginning of another one's: equal ones are a part.
    size = len(part)
    return any([nodes[start:start + size] == part for start in range(len(nodes))])


def renamed_in(nodes, names):
    """The nodes with other facts, as a dict tells them."""
    return tuple([
        (kind, names[told]) if kind in ("fact", "not") else (kind, told) for kind, told in nodes
    ])


def put_in(nodes, word, other):
    """The nodes with other ones for each fact of a word, turned round where it is denied."""
    against = turned(other)
    found = []
    for node in nodes:
        if node == ("fact", word):
            found.extend(other)
        elif node == ("not", word):
            found.extend(against)
        else:
            found.append(node)
    return tuple(found)
