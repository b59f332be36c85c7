"""Rules over facts, and what no history ever tells apart."""
