package tests

import "math"

// edgeNumbers are those at which a sum or a difference would wrap, and the
// document's limits, met exactly and passed by one.
var edgeNumbers = []int64{
	math.MinInt64, math.MinInt64 + 1, math.MinInt32, -1001, -2, -1, 0, 1, 2, 5, 6, 7,
	19, 20, 21, 999, 1000, 1001, 999998999, 999999000, 999999001,
	999999999, 1000000000, 1000000001, math.MaxInt32, math.MaxInt64 - 1, math.MaxInt64,
}

// dice rolls the same numbers in every run, so a failure comes back.
type dice struct{ state uint64 }

func (d *dice) below(n int64) int64 {
	d.state = d.state*6364136223846793005 + 1442695040888963407
	return int64((d.state >> 33) % uint64(n))
}

// garbled is s with a few bytes put in, taken out or changed.
func (d *dice) garbled(s string, letters string) string {
	b := []byte(s)
	for range 1 + d.below(3) {
		at := d.below(int64(len(b)) + 1)
		letter := letters[d.below(int64(len(letters)))]
		switch {
		case d.below(3) == 0 || at == int64(len(b)):
			b = append(b[:at:at], append([]byte{letter}, b[at:]...)...)
		case d.below(2) == 0:
			b = append(b[:at:at], b[at+1:]...)
		default:
			b[at] = letter
		}
	}
	return string(b)
}
