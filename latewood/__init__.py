"""Latewood: pieces of runs told late by many houses."""
