"""Tests of mixserver."""
