"""A ray reckoned at a fineness. What is told depends on each place where a step goes outward, and on no other."""

from raypaths.spans import exact, inverse, minus, negative, outward, over, plus, root, square, times, whole
from raypaths.spans import holds_zero, is_above, is_zero, reaches_above


# The ray misses, is blocked, or is thrown back inside.
class RayFails(ValueError):
    pass


# The fineness leaves it undecided whether the ray gets through.
class RayUnsure(ValueError):
    pass


# The point is by the vertex met last. sign is 1 where light goes toward greater z, -1 where it goes the other way;
# size is the index's size where the ray is now.
class Ray:
    def __init__(self, point, way, size, p):
        self.point = point
        self.way = way
        self.length = whole(0)
        self.sign = 1
        self.size = size
        self.p = p


# stretch is 1 + k of the conic k: alone k never stands.
class Shape:
    def __init__(self, part):
        self.curve = exact(part.curve)
        self.stretch = plus(whole(1), exact(part.conic))


def inner(a, b):
    return plus(plus(times(a[0], b[0]), times(a[1], b[1])), times(a[2], b[2]))


def square_sum(a, stretch):
    return plus(plus(square(a[0]), square(a[1])), times(stretch, square(a[2])))


def moved(a, factor, b, p):
    return tuple([outward(plus(one, times(factor, other)), p) for one, other in zip(a, b)])


def across(shape, point, p):
    tilt = negative(shape.curve)
    fall = negative(times(shape.curve, shape.stretch))
    return (
        outward(times(tilt, point[0]), p),
        outward(times(tilt, point[1]), p),
        outward(plus(whole(1), times(fall, point[2])), p),
    )


def need_above_zero(a):
    if a.hi < 0:
        raise RayFails()
    if a.lo <= 0:
        raise RayUnsure()


def start_ray(start, size, p):
    x = exact(start[0])
    y = exact(start[1])
    u = exact(start[2])
    v = exact(start[3])
    slopes = plus(plus(whole(1), times(u, u)), times(v, v))
    forward = outward(inverse(root(outward(slopes, p), p)), p)
    way = (outward(times(u, forward), p), outward(times(v, forward), p), forward)
    return Ray((x, y, whole(0)), way, size, p)


def distance_to_shell(ray, shape):
    p = ray.p
    sign = whole(ray.sign)
    bowl = times(shape.curve, square_sum(ray.point, shape.stretch))
    off_shell = outward(minus(times(whole(2), ray.point[2]), bowl), p)
    slant = outward(inner(across(shape, ray.point, p), ray.way), p)
    spread = outward(square_sum(ray.way, shape.stretch), p)
    under_root = outward(plus(square(slant), times(times(shape.curve, off_shell), spread)), p)
    need_above_zero(under_root)
    swing = times(sign, root(under_root, p))
    below = outward(plus(slant, swing), p)
    if is_zero(shape.curve):
        need_above_zero(times(sign, slant))
    if not holds_zero(below):
        return outward(over(negative(off_shell), below), p)
    if is_zero(shape.curve) or holds_zero(spread):
        raise RayUnsure()
    # The same distance in another form, whose divisor stays away from 0 where the first one's cancels out.
    return outward(over(minus(slant, swing), times(shape.curve, spread)), p)


def go_along(ray, distance):
    ray.point = moved(ray.point, distance, ray.way, ray.p)
    ray.length = outward(plus(ray.length, times(ray.size, distance)), ray.p)


def need_let_through(ray, reach):
    limit = square(exact(reach))
    off_axis = outward(plus(square(ray.point[0]), square(ray.point[1])), ray.p)
    if is_above(off_axis, limit):
        raise RayFails()
    if reaches_above(off_axis, limit):
        raise RayUnsure()


# Gives back what stands across the shell at the ray's new point.
def meet(ray, part, shape):
    gap = times(whole(ray.sign), exact(part.gap))
    ray.point = (ray.point[0], ray.point[1], outward(minus(ray.point[2], gap), ray.p))
    go_along(ray, distance_to_shell(ray, shape))
    stand = across(shape, ray.point, ray.p)
    if stand[2].hi <= 0:
        raise RayFails()
    if stand[2].lo <= 0:
        raise RayUnsure()
    if part.reach is not None:
        need_let_through(ray, part.reach)
    return stand


def throw_back(ray, stand, breadth, slant):
    factor = outward(over(times(whole(-2), slant), breadth), ray.p)
    ray.way = moved(ray.way, factor, stand, ray.p)
    ray.sign = -ray.sign


def bend_into(ray, stand, breadth, slant, size):
    p = ray.p
    before = square(ray.size)
    under_root = outward(plus(times(before, square(slant)), times(minus(square(size), before), breadth)), p)
    need_above_zero(under_root)
    swing = times(whole(ray.sign), root(under_root, p))
    factor = outward(over(minus(swing, times(ray.size, slant)), breadth), p)
    bent = moved([times(ray.size, number) for number in ray.way], factor, stand, p)
    ray.way = tuple([outward(times(number, inverse(size)), p) for number in bent])
    ray.size = size


def pass_part(ray, part, line):
    stand = meet(ray, part, Shape(part))
    if part.kind == "stop":
        return
    breadth = outward(square_sum(stand, whole(1)), ray.p)
    slant = outward(inner(stand, ray.way), ray.p)
    if breadth.lo <= 0:
        raise RayUnsure()
    if part.kind == "mirror":
        throw_back(ray, stand, breadth, slant)
    else:
        bend_into(ray, stand, breadth, slant, exact(part.glass[line]))


def go_to_plane(ray, z):
    if holds_zero(ray.way[2]):
        raise RayUnsure()
    go_along(ray, outward(over(minus(z, ray.point[2]), ray.way[2]), ray.p))


# start is x, y and the slopes u, v. The ray that is given back is at the plane z behind the last vertex.
def traced(system, line, start, z, p):
    ray = start_ray(start, exact(system.medium[line]), p)
    for part in system.parts:
        pass_part(ray, part, line)
    go_to_plane(ray, exact(z))
    return ray
