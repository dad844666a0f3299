"""Pickboard: parts picked from feeders by heads and laid on a board."""
