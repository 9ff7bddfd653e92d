"""Alikeplay: a game engine that runs alike everywhere."""
