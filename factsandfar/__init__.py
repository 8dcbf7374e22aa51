"""Factsandfar: certain answers over tables and an ontology."""
