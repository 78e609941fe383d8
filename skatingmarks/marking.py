"""What the judges' grades and marks make."""

# From so many judges on, one of the greatest and one of the least are left out.
LEAST_TO_LEAVE_OUT = 5

# Marks are quarters of a point.
QUARTER = 25


def nearest(number, divisor):
    """The whole number nearest to number / divisor, a half away from 0."""
    if number < 0:
        return -nearest(-number, divisor)
    return (2 * number + divisor) // (2 * divisor)


def put_together(numbers):
    """The judges' numbers that have a part in the mean."""
    if len(numbers) < LEAST_TO_LEAVE_OUT:
        return list(numbers)
    return sorted(numbers)[1:-1]


def grades_make(grades, goes_by):
    """What an element's grades make, in hundredths of a point."""
    left = put_together(grades)
    return nearest(sum(left) * goes_by, 10 * len(left))


def component(marks):
    """One component, in hundredths of a point."""
    left = put_together(marks)
    return nearest(QUARTER * sum(left), len(left))


def components_make(rows, factor):
    """What the components make together, in hundredths of a point."""
    return nearest(factor * sum([component(marks) for marks in rows]), 100)
