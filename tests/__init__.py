"""Tests of the program, one file for each module of it."""
