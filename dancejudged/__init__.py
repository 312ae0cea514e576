"""A dance contest judged."""
