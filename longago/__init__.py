"""Longago: exact draws by walks that began long ago."""
