"""Roomleft: messages in bits, and the room that later editions find."""
