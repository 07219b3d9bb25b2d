"""Uniformity judged: tyres measured at twelve points round, graded, mounted, matched and weighted."""
