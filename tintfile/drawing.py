"""A picture drawn over what the screen shows: row by row, four numbers for each place."""

from tintfile.unpacking import unpack

CLEARED = 2
BROUGHT_BACK = 3
NOTHING = (0, 0, 0, 0)
# The first row of each pass, and how far it is from there to the pass's next row.
PASSES = ((0, 8), (4, 8), (2, 4), (1, 2))


class Canvas:
    def __init__(self, width, numbers):
        self.width = width
        self.numbers = list(numbers)

    # Row and column are counted from the area's own edges.
    def paint(self, area, row, column, colour):
        start = 4 * ((area.top + row) * self.width + area.left + column)
        for step, number in enumerate(colour):
            self.numbers[start + step] = number

    def clear_area(self, area):
        for row in range(area.height):
            for column in range(area.width):
                self.paint(area, row, column, NOTHING)


# Answers 0 or -3, then the numbers of canvas and of saved as they are behind drawing.
def draw_picture(k, outline, canvas, saved):
    picture = outline.pictures[k]
    drawn = prepare_canvas(k, outline, canvas, saved)
    kept = list(saved)
    if picture.manner.after == BROUGHT_BACK:
        kept = list(drawn.numbers)
    wanted = picture.area.width * picture.area.height
    numbers = unpack(picture.size, wanted, picture.data).numbers
    draw_numbers(drawn, picture, numbers)
    first = 0 if len(numbers) == wanted else -3
    return [first] + drawn.numbers + kept


# A copy of the canvas, with what the picture ahead of picture k says done to it.
def prepare_canvas(k, outline, canvas, saved):
    width = outline.screen.width
    if k == 0:
        return Canvas(width, [0] * len(canvas))
    ahead = outline.pictures[k - 1]
    if ahead.manner.after == BROUGHT_BACK:
        return Canvas(width, saved)
    prepared = Canvas(width, canvas)
    if ahead.manner.after == CLEARED:
        prepared.clear_area(ahead.area)
    return prepared


def draw_numbers(drawn, picture, numbers):
    area = picture.area
    rows = order_rows(area.height, picture.in_passes)
    for step, number in enumerate(numbers):
        if number != picture.manner.transparent and number < len(picture.colours):
            row = rows[step // area.width]
            drawn.paint(area, row, step % area.width, picture.colours[number] + [255])


def order_rows(height, in_passes):
    if not in_passes:
        return list(range(height))
    rows = []
    for start, stride in PASSES:
        rows.extend(list(range(start, height, stride)))
    return rows
