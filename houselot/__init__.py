"""Popular house allocation: assignments of houses to applicants, compared by votes."""
