"""How much there may be of what."""

MOST_NAME_BYTES = 64
MOST_BODY_BYTES = 65536
MOST_BOOK_BYTES = 1048576

# That of a put whose name and body are as long as may be: no plain text is longer.
MOST_PLAIN_BYTES = 65603


def is_name_length(number):
    return 1 <= number <= MOST_NAME_BYTES
