"""The words of a text: pointers to pages, and plain words."""


def is_name(word):
    # islower and isalpha would let letters through that are not from a to z.
    return word != "" and all(["a" <= sign <= "z" for sign in word])


def read_word(word):
    inner = word[1:-1]
    if word.startswith("[") and word.endswith("]") and is_name(inner):
        return ("to", inner)
    return ("word", word)


def split_up(text):
    # Blanks ahead, behind and side by side leave empty pieces, which are no words.
    return [read_word(piece) for piece in text.split(" ") if piece != ""]


def tell_word(word):
    inner = word[1]
    if word[0] == "to":
        return f"[{inner}]"
    return inner


def tell_text(words):
    return " ".join([tell_word(word) for word in words])
