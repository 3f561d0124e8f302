"""Houses by buckets: each bucket has a number by which its keys are mixed to rooms."""

from lodge.errors import NoFit
from lodge.houses import House
from lodge.keys import look_keys, mixed, stamp

BUCKET_SALT = 0


def bucket_of(number, many_buckets):
    return mixed(number, BUCKET_SALT, many_buckets)


def room_by(number, bucket_number, how_many):
    # One more, since salt 0 has told the bucket already.
    return mixed(number, bucket_number + 1, how_many)


def stamps_by_bucket(stamps, many_buckets):
    found = {}
    for number in stamps:
        found.setdefault(bucket_of(number, many_buckets), []).append(number)
    return found


def rooms_fit(stamps, bucket_number, how_many, taken):
    own = {}
    for number in stamps:
        room = room_by(number, bucket_number, how_many)
        if room in taken or room in own:
            return False
        own[room] = True
    return True


def least_number(stamps, how_many, taken, most):
    for bucket_number in range(most):
        if rooms_fit(stamps, bucket_number, how_many, taken):
            return bucket_number
    return None


def numbers_by_bucket(stamps, many_buckets, most):
    within = stamps_by_bucket(stamps, many_buckets)
    taken = {}
    numbers = {}
    for bucket in sorted(within, key=lambda each: (-len(within[each]), each)):
        found = least_number(within[bucket], len(stamps), taken, most)
        if found is None:
            raise NoFit(bucket)
        numbers[bucket] = found
        for number in within[bucket]:
            taken[room_by(number, found, len(stamps))] = True
    return numbers


class Buckets(House):
    def __init__(self, keys, many_buckets, most):
        House.__init__(self, look_keys(keys))
        self.many_buckets = many_buckets
        self.by_bucket = numbers_by_bucket([stamp(key) for key in keys], many_buckets, most)

    def numbers(self):
        return [self.number_in(bucket) for bucket in range(self.many_buckets)]

    def bucket(self, key):
        return bucket_of(stamp(key), self.many_buckets)

    def number_in(self, bucket):
        # A bucket without keys was never looked for, and has 0.
        return self.by_bucket.get(bucket, 0)

    def number_of(self, key):
        return room_by(stamp(key), self.number_in(self.bucket(key)), self.how_many)
