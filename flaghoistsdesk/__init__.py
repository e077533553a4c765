"""Hoists of signal flags, out of a locker told by its text: what they mean, and which show rows of signs."""
