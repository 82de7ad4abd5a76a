"""Years: how long a stake and work keep a claim."""


def counted(term, days):
    kept = []
    for day in days:
        if not kept or day <= kept[-1] + term:
            kept.append(day)
    return kept


def through(term, days):
    return counted(term, days)[-1] + term


def holds(term, years, day):
    if not years:
        return False
    gaps = [later - earlier for earlier, later in zip(years, years[1:])]
    return all([1 <= gap <= term for gap in gaps]) and 0 <= day - years[-1] <= term
