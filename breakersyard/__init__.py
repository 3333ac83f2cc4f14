"""A breaker's yard: old cars, the parts that come off them, and what becomes of the rest."""
