"""Quadwords: tables of four whole numbers, made of told ones."""
