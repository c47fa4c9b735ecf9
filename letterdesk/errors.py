"""The errors of the program's own.

The days and the threads refuse nothing, so none is needed for them and none stands here so far.
"""
