"""Texts by their pieces: how a text is cut, how many texts may have been cut into the pieces at hand, and which.

A piece is a street from its beginning (all letters but the last) to its end (all letters but the first).
A text is then a way that uses each street once. The same piece twice is two streets between the same
points, and no other piece goes between them: so a table of how many streets go from each point to each
point says all that is to be known of the pieces.
"""

NOT_AS_TOLD = -22
NO_SUCH_NUMBER = -33
MOST_PIECES = 64
LEAST_LENGTH = 2
MOST_LENGTH = 48
MOST_LETTER = 3


def tp_many(k, pieces):
    if not pieces_are_as_told(k, pieces):
        return [NOT_AS_TOLD]
    return [0, count_texts(street_table(pieces))]


def tp_text(k, number, pieces):
    if not pieces_are_as_told(k, pieces):
        return [NOT_AS_TOLD]
    many = count_texts(street_table(pieces))
    if number >= many:
        return [NO_SUCH_NUMBER]
    return [0] + text_of_number(number, many, pieces)


def tp_cut(k, text):
    if not text_is_as_told(k, text):
        return [NOT_AS_TOLD]
    many = count_pieces(k, text)
    answer = [many]
    for place in range(many):
        answer.extend(text[place:place + k])
    return answer


def pieces_are_as_told(k, pieces):
    if not length_is_as_told(k) or not amount_is_as_told(len(pieces)):
        return False
    return all([letters_are_as_told(piece) for piece in pieces])


def text_is_as_told(k, text):
    # A text of k to 63 + k letters is one of 1 to 64 pieces: the bounds are those of the pieces themselves.
    if not length_is_as_told(k) or not amount_is_as_told(count_pieces(k, text)):
        return False
    return letters_are_as_told(text)


def length_is_as_told(k):
    return k >= LEAST_LENGTH and k <= MOST_LENGTH


def amount_is_as_told(many):
    return many >= 1 and many <= MOST_PIECES


def letters_are_as_told(letters):
    return max(letters) <= MOST_LETTER


def count_pieces(k, text):
    # Below 1 if the text is too short to have a piece.
    return len(text) - k + 1


def beginning_of(piece):
    return tuple(piece[:-1])


def end_of(piece):
    return tuple(piece[1:])


def number_points(pieces):
    numbers = {}
    for piece in pieces:
        numbers.setdefault(beginning_of(piece), len(numbers))
        numbers.setdefault(end_of(piece), len(numbers))
    return numbers


def street_table(pieces):
    numbers = number_points(pieces)
    streets = [[0] * len(numbers) for point in numbers]
    for piece in pieces:
        start = numbers[beginning_of(piece)]
        goal = numbers[end_of(piece)]
        streets[start][goal] += 1
    return streets


def count_texts(streets):
    surplus = [surplus_at(streets, point) for point in range(len(streets))]
    # The surpluses add up to 0, so 2 here means one first point (-1), one last point (1), and no other.
    uneven = sum([abs(more) for more in surplus])
    if uneven == 0:
        # Every way ends where it began, so each round may be begun at any of its streets.
        return count_streets(streets) * count_rounds(streets) // count_swaps(streets)
    if uneven == 2:
        # A street back makes a round of each way, and a round passes it once: as many rounds as ways.
        # Its swaps with a piece between the same points don't count, as it is no piece itself.
        closed = with_street(streets, surplus.index(1), surplus.index(-1))
        return count_rounds(closed) // count_swaps(streets)
    return 0


def surplus_at(streets, point):
    return sum([row[point] for row in streets]) - sum(streets[point])


def count_streets(streets):
    return sum([sum(row) for row in streets])


def with_street(streets, start, goal):
    longer = [list(row) for row in streets]
    longer[start][goal] += 1
    return longer


def count_rounds(streets):
    # At each point the tree takes one street as the one left by last; the others go in any order.
    rounds = count_trees(streets)
    for row in streets:
        rounds *= factorial(sum(row) - 1)
    return rounds


def count_swaps(streets):
    # The rounds tell streets of the same piece apart; the texts don't.
    swaps = 1
    for row in streets:
        for many in row:
            swaps *= factorial(many)
    return swaps


def count_trees(streets):
    # Where as many streets end as begin at each point, there are as many trees towards any one as towards
    # any other: point 0 will do. There are none if the streets don't all hang together.
    table = []
    for point in range(1, len(streets)):
        row = [-many for many in streets[point][1:]]
        row[point - 1] += sum(streets[point])
        table.append(row)
    return tree_determinant(table)


def tree_determinant(table):
    # Each division is by the pivot before and leaves no rest, so the numbers stay whole and exact.
    rows = table
    before = 1
    while len(rows) > 0:
        pivot = rows[0][0]
        if pivot == 0:
            # No rows need to change places: the pivot counts the forests that lead the points so far out
            # from among them. If there is none, there is no tree either.
            return 0
        rows = [reduced_row(row, rows[0], before) for row in rows[1:]]
        before = pivot
    return before


def reduced_row(row, top, before):
    return [(top[0] * row[place] - row[0] * top[place]) // before for place in range(1, len(row))]


def factorial(number):
    product = 1
    for factor in range(2, number + 1):
        product *= factor
    return product


def text_of_number(number, many, pieces):
    # In the order of texts those with the same first point stand together, and the points are in order too.
    points = sorted(set([beginning_of(piece) for piece in pieces]))
    counts = [count_from(point, many, pieces) for point in points]
    group = group_of(number, counts)
    return list(points[group]) + letters_onward(points[group], number - sum(counts[:group]), pieces)


def letters_onward(start, number, pieces):
    # The number is always that among the texts which begin as the letters so far do.
    letters = []
    point = start
    left = number
    rest = [tuple(piece) for piece in pieces]
    while len(rest) > 0:
        choices = choices_at(point, rest)
        counts = [count_behind(piece, rest) for piece in choices]
        group = group_of(left, counts)
        left -= sum(counts[:group])
        letters.append(choices[group][-1])
        point = end_of(choices[group])
        rest = without_piece(rest, choices[group])
    return letters


def choices_at(point, pieces):
    # The same piece twice is one choice: it makes no difference to the text which of the two is laid first.
    return sorted(set([piece for piece in pieces if beginning_of(piece) == point]))


def group_of(number, counts):
    group = 0
    passed = counts[0]
    while passed <= number:
        group += 1
        passed += counts[group]
    return group


def count_behind(piece, pieces):
    rest = without_piece(pieces, piece)
    if len(rest) == 0:
        # The table of no streets has no points, but there is one way to lay nothing.
        return 1
    return count_from(end_of(piece), count_texts(street_table(rest)), rest)


def count_from(point, many, pieces):
    # How many of the texts that have the pieces (there are as many as told) have this first point.
    beginnings = [beginning_of(piece) for piece in pieces]
    ends = [end_of(piece) for piece in pieces]
    if sorted(beginnings) == sorted(ends):
        # Each round may be begun at any of its streets, so each street is the first of equally many.
        return many * beginnings.count(point) // len(pieces)
    # Else all texts have the same first point: the one where more pieces begin than end.
    return many if beginnings.count(point) > ends.count(point) else 0


def without_piece(pieces, piece):
    place = pieces.index(piece)
    return pieces[:place] + pieces[place + 1:]
