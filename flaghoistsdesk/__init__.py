"""Hoists of signal flags, out of a locker told by its text: what they mean, which show rows, and how many rows."""
