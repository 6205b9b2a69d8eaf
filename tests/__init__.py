"""Tests of the program, one file for each group of promises."""
