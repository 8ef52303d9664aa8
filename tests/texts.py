"""Random circuits with the gates they do, and a second reckoning of a text's fault."""

LETTERS = "xyzhst"
CODES = {"x": 0, "y": 1, "z": 2, "h": 3, "s": 4, "t": 6}
UNDO = {0: 0, 1: 1, 2: 2, 3: 3, 4: 5, 5: 4, 6: 7, 7: 6}


def gap(chance):
    return chance.choice(["", "", "", "", " ", "\n", "  "])


def random_gate(chance, n):
    letter = chance.choice(LETTERS)
    mark = chance.choice(["", "", "'"])
    used = chance.sample(range(n), chance.randint(1, min(n, 3)))
    code = CODES[letter]
    done = (UNDO[code] if mark else code, used[0], sum(1 << c for c in used[1:]))
    parts = [letter, mark, str(used[0])]
    for place, control in enumerate(used[1:]):
        parts += ["?" if place == 0 else ",", str(control)]
    return "".join(part + gap(chance) for part in parts), [done]


def random_circuit(chance, n, depth):
    """A text and the gates it does, one after another."""
    texts = []
    done = []
    for item in range(chance.randint(0, 4)):
        roll = chance.random()
        if roll < 0.1:
            texts.append(gap(chance))
        elif roll < 0.4 and depth > 0:
            inner, gates = random_circuit(chance, n, depth - 1)
            back = chance.random() < 0.4
            times = chance.choice([None, None, 0, 1, 2, 3])
            if back:
                gates = [(UNDO[g], q, c) for g, q, c in gates[::-1]]
            parts = ["~" if back else "", "(", inner, ")"] + ([] if times is None else ["^", str(times)])
            texts.append("".join(part + gap(chance) for part in parts))
            done += gates * (1 if times is None else times)
        elif n > 0:
            text, gates = random_gate(chance, n)
            texts.append(text)
            done += gates
    return gap(chance) + ";".join(texts), done


# Other ways to do each gate, by its number; # stands for its qubit, @ for that and its controls.
OTHER_WAYS = {
    0: "h#;z@;h#", 1: "s'#;x@;s#", 2: "s@;s@", 3: "~(h@)", 4: "(t@)^2", 5: "z@;s@", 6: "s@;t'@", 7: "~(t@;(h@)^2)",
}


def other_way(gates):
    """A text that does the same as the gates, each done in another way."""
    texts = []
    for g, q, controls in gates:
        listed = [str(c) for c in range(6) if controls >> c & 1]
        target = f"{q}?{','.join(listed)}" if listed else f"{q}"
        texts.append(OTHER_WAYS[g].replace("@", target).replace("#", f"{q}"))
    return ";".join(texts)


# What may stand in each place of a text, and the place behind it; N is a number.
SHAPE = {
    "item": {**dict.fromkeys("xyzhst", "letter"), "~": "tilde", "(": "item", ";": "item", ")": "closed"},
    "tilde": {"(": "item"},
    "letter": {"'": "marked", "N": "qubit"},
    "marked": {"N": "qubit"},
    "qubit": {"?": "asked", ";": "item", ")": "closed"},
    "asked": {"N": "control"},
    "control": {",": "asked", ";": "item", ")": "closed"},
    "closed": {"^": "raised", ";": "item", ")": "closed"},
    "raised": {"N": "times"},
    "times": {";": "item", ")": "closed"},
}
LAST = ("item", "qubit", "control", "closed", "times")


def tokens(text):
    at = 0
    while at < len(text):
        end = at + 1
        if text[at].isdigit():
            while end < len(text) and text[end].isdigit():
                end += 1
        if text[at] not in " \n":
            yield at, text[at:end]
        at = end


def fault(text, n):
    """The place of the text's fault, None if it's a circuit."""
    where = "item"
    brackets = 0
    used = []
    for at, token in tokens(text):
        after = SHAPE[where].get("N" if token[0].isdigit() else token)
        if after is None:
            return at
        if token[0].isdigit():
            most = 1000 if after == "times" else n - 1
            if after == "qubit":
                used = []
            if str(int(token)) != token or int(token) > most or (after != "times" and token in used):
                return at
            used.append(token)
        brackets += {"(": 1, ")": -1}.get(token, 0)
        if brackets < 0 or brackets > 16:
            return at
        where = after
    return None if where in LAST and brackets == 0 else len(text)
