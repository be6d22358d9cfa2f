"""Gapsame: contests on a field without an end, told by the order of lines and the short gaps."""
