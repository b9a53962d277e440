"""Names, answers, schemas and databases."""
