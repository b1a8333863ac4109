"""Unwritparts: told just when it is sure, of a program that several hands write and rewrite."""
