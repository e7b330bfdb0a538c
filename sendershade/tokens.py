"""Which numbers are a TOKEN. Private: the files behind errors.py may draw from it."""

from sendershade.errors import NoToken


def check_token(token, rows):
    """Raise NoToken(token) if token is no place in rows."""
    if not 0 <= token < len(rows):
        raise NoToken(token)
