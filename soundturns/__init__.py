"""Soundturns: changes of sound, and the forms that they make."""
