"""Mixes: materials bought by lots, mixed by recipes, rested, used, worked in again."""
