"""A line between two, kept right: messages over a line of bits that turns, loses and makes bits."""
