"""Forgotten for sure: slots under keys that stand under other keys, up to the register's."""
