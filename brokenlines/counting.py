"""Numbers that go up, looked through by halves."""


# How many of the numbers are less than the limit.
def count_below(numbers, limit):
    low = 0
    high = len(numbers)
    while low < high:
        middle = (low + high) // 2
        if numbers[middle] < limit:
            low = middle + 1
        else:
            high = middle
    return low
