package radix

import (
	"math/big"
	"slices"
	"testing"

	"ravelin/api"
	"ravelin/plain"
)

// near are numbers about 0, about the ends and about the places where products
// begin to run round.
func near() []int {
	var all []int
	for d := -3; d <= 3; d++ {
		all = append(all, d, 1<<32+d, -1<<32+d, 1<<62+d)
	}
	for d := range 3 {
		all = append(all, api.Least+d, api.Greatest-d)
	}
	return append(all, 10, -10, 60, 97, 1234, -1234, 3037000500, -1000000007)
}

// bases are lists of bases: ordinary ones, ones with 0, ones below 0, and ones
// that are great.
func bases() [][]int {
	least, greatest := api.Least, api.Greatest
	return [][]int{
		nil, {}, {10}, {0}, {1}, {-1}, {2}, {-2}, {least}, {greatest},
		{10, 10}, {24, 60, 60}, {0, 24, 60, 60}, {0, 10, 10}, {10, 0}, {0, 0}, {10, 0, 10}, {0, 10, 0, 10},
		{1, 1, 1}, {0, 1, 1}, {-1, -1}, {0, -1}, {-1, 10}, {10, -1}, {0, -10, -10}, {0, 7, -3, 5, -11},
		{least, least}, {0, least}, {least, -1}, {-1, least}, {0, -1, -1, least}, {greatest, greatest}, {0, greatest},
		{greatest, least, 0, least, greatest}, {0, 1 << 32, 1 << 32}, {1 << 32, 1 << 32, 1 << 32},
		slices.Repeat([]int{2}, 64), slices.Repeat([]int{-2}, 70), append([]int{0}, slices.Repeat([]int{3}, 30)...),
		slices.Repeat([]int{10}, 20), slices.Repeat([]int{-10}, 19),
	}
}

// strewn are n numbers without a plain rule, from the whole of all numbers.
func strewn(n, seed int) []int {
	all := make([]int, n)
	x := uint64(seed)
	for i := range all {
		x = x*6364136223846793005 + 1442695040888963407
		all[i] = int(x ^ x>>29)
	}
	return all
}

func wide(a int) *big.Int { return big.NewInt(int64(a)) }

// round is the number from Least to Greatest that is x modulo 2^64.
func round(x *big.Int) int {
	whole := new(big.Int).Lsh(big.NewInt(1), 64)
	return int(new(big.Int).Mod(x, whole).Uint64())
}

// summed is the number that digits are, each times all bases behind its place, in
// numbers that do not run round but at last.
func summed(base, digits []int) int {
	sum, weight := new(big.Int), big.NewInt(1)
	for i := len(digits) - 1; i >= 0; i-- {
		sum.Add(sum, new(big.Int).Mul(wide(digits[i]), weight))
		weight.Mul(weight, wide(base[i]))
	}
	return round(sum)
}

// floorOf is the greatest whole number that is not above n / base.
func floorOf(n, base int) *big.Int {
	q, rest := new(big.Int).QuoRem(wide(n), wide(base), new(big.Int))
	if rest.Sign() != 0 && rest.Sign() != wide(base).Sign() {
		q.Sub(q, big.NewInt(1))
	}
	return q
}

// byWords are the digits of a number by RA2's words, in wide numbers.
func byWords(base []int, n int) []int {
	var digits []int
	for i := len(base) - 1; i >= 0; i-- {
		if base[i] == 0 {
			digits = append(digits, n)
			n = 0
			continue
		}
		q := floorOf(n, base[i])
		digits = append(digits, round(new(big.Int).Sub(wide(n), new(big.Int).Mul(wide(base[i]), q))))
		n = round(q)
	}
	slices.Reverse(digits)
	return digits
}

func brief(list []int) []int { return list[:min(len(list), 20)] }

func wantValue(t *testing.T, base, digits []int, want int) {
	t.Helper()
	if got, err := Value(base, digits); got != want || err != nil {
		t.Errorf("Value(%v, %v): got %d, %v, want %d", brief(base), brief(digits), got, err, want)
	}
}

func wantNoValue(t *testing.T, base, digits []int, want api.Errno) {
	t.Helper()
	if got, err := Value(base, digits); got != 0 || plain.Told(err) != want {
		t.Errorf("Value of %d bases and %d digits: got %d, %v, want 0, %v", len(base), len(digits), got, err, want)
	}
}

func wantDigits(t *testing.T, base []int, n int, want []int) {
	t.Helper()
	if got, err := Digits(base, n); !slices.Equal(got, want) || err != nil {
		t.Errorf("Digits(%v, %d): got %v, %v, want %v", brief(base), n, brief(got), err, brief(want))
	}
}

// RA1: the number that digits are.
func TestValueTells(t *testing.T) {
	least, greatest := api.Least, api.Greatest
	for _, c := range []struct {
		base, digits []int
		want         int
	}{
		{nil, nil, 0},
		{[]int{}, nil, 0},
		{nil, []int{}, 0},
		{[]int{24, 60, 60}, []int{1, 2, 3}, 3723},
		{[]int{10, 10, 10}, []int{1, 2, 3}, 123},
		{[]int{10, 10, 10}, []int{0, 0, 0}, 0},
		{[]int{5}, []int{7}, 7},
		{[]int{0}, []int{-7}, -7},
		{[]int{least}, []int{greatest}, greatest},
		{[]int{99, 10}, []int{4, 2}, 42},
		{[]int{0, 10}, []int{4, 2}, 42},
		{[]int{10, 0}, []int{4, 2}, 2},
		{[]int{10, 0, 10}, []int{9, 4, 2}, 42},
		{[]int{10, 1, 1}, []int{3, 4, 5}, 12},
		{[]int{2, 3, 5}, []int{1, 1, 1}, 21},
		{[]int{10, 10}, []int{12, -34}, 86},
		{[]int{10, 10}, []int{-1, 3}, -7},
		{[]int{-2, -2, -2, -2}, []int{1, 1, 0, 1}, -3},
		{[]int{-10, 10, -10}, []int{1, 2, 3}, -117},
	} {
		wantValue(t, c.base, c.digits, c.want)
	}
}

// RA1: it runs round.
func TestValueRunsRound(t *testing.T) {
	least, greatest := api.Least, api.Greatest
	for _, c := range []struct {
		base, digits []int
		want         int
	}{
		{[]int{0, 2}, []int{1 << 62, 0}, least},
		{[]int{0, 2}, []int{least, 0}, 0},
		{[]int{0, 2}, []int{greatest, 1}, -1},
		{[]int{0, 1}, []int{greatest, 1}, least},
		{[]int{0, 1}, []int{least, -1}, greatest},
		{[]int{0, -1}, []int{least, 0}, least},
		{[]int{0, least}, []int{3, 5}, least + 5},
		{[]int{0, 1 << 32, 1 << 32}, []int{7, 0, 9}, 9},
		{slices.Repeat([]int{2}, 64), slices.Repeat([]int{1}, 64), -1},
		{slices.Repeat([]int{2}, 65), append([]int{1}, make([]int, 64)...), 0},
	} {
		wantValue(t, c.base, c.digits, c.want)
	}
	for k, base := range bases() {
		for seed := range 20 {
			digits := strewn(len(base), 100*k+seed)
			wantValue(t, base, digits, summed(base, digits))
		}
	}
	for n := range 40 {
		base, digits := strewn(n, n), strewn(n, -n-1)
		wantValue(t, base, digits, summed(base, digits))
	}
}

// RA1: of all short lists of few numbers.
func TestValueOfAllShortLists(t *testing.T) {
	for x := range 7 * 7 * 7 * 7 * 7 * 7 {
		var all [6]int
		for i := range all {
			all[i] = x%7 - 3
			x /= 7
		}
		a, b, c := all[0], all[1], all[2]
		base, digits := []int{a, b, c}, all[3:]
		wantValue(t, base, digits, (digits[0]*b+digits[1])*c+digits[2])
	}
}

// RA1: as many bases as may be, and no more.
func TestValueOfManyBases(t *testing.T) {
	m := api.MaxCells
	wantValue(t, slices.Repeat([]int{1}, m), slices.Repeat([]int{3}, m), 3*m)
	wantValue(t, make([]int, m), append(make([]int, m-1), 8), 8)
	wantValue(t, strewn(m, 1), strewn(m, 2), summed(strewn(m, 1), strewn(m, 2)))
	for _, more := range []int{m + 1, m + 2, 2 * m, 10 * m} {
		for _, digits := range []int{0, 1, m, m + 1, more - 1, more, more + 1} {
			wantNoValue(t, make([]int, more), slices.Repeat([]int{1}, digits), api.ErrFull)
		}
	}
}

// RA1: as many digits as bases; too many digits alone are not too many bases.
func TestValueRefusesOtherLengths(t *testing.T) {
	m := api.MaxCells
	lengths := []int{0, 1, 2, 3, 100, m - 1, m, m + 1, 2 * m}
	for _, b := range lengths {
		for _, d := range lengths {
			if b <= m && b != d {
				wantNoValue(t, slices.Repeat([]int{10}, b), slices.Repeat([]int{1}, d), api.ErrLength)
			}
		}
	}
}

// RA2: the digits of a number.
func TestDigitsTells(t *testing.T) {
	least, greatest := api.Least, api.Greatest
	for _, c := range []struct {
		base []int
		n    int
		want []int
	}{
		{nil, 0, nil},
		{nil, 17, nil},
		{[]int{}, least, nil},
		{[]int{24, 60, 60}, 3723, []int{1, 2, 3}},
		{[]int{24, 60, 60}, 86400 + 3723, []int{1, 2, 3}},
		{[]int{24, 60, 60}, -1, []int{23, 59, 59}},
		{[]int{10, 10, 10}, 7, []int{0, 0, 7}},
		{[]int{10, 10, 10}, 0, []int{0, 0, 0}},
		{[]int{10, 10}, 1234, []int{3, 4}},
		{[]int{10, 10}, -1, []int{9, 9}},
		{[]int{10, 10}, -1234, []int{6, 6}},
		{[]int{2, 3, 5}, 21, []int{1, 1, 1}},
		{[]int{5, 3, 2}, 21, []int{3, 1, 1}},
		{[]int{1, 1}, 5, []int{0, 0}},
		{[]int{-10, -10}, 7, []int{-1, -3}},
		{[]int{-10, 10}, 7, []int{0, 7}},
		{[]int{-1, -1}, 7, []int{0, 0}},
		{[]int{greatest}, greatest, []int{0}},
		{[]int{greatest, greatest}, -1, []int{greatest - 1, greatest - 1}},
		{[]int{10, least}, 1, []int{9, least + 1}},
		{[]int{10, least}, -1, []int{0, -1}},
	} {
		wantDigits(t, c.base, c.n, c.want)
	}
}

// RA2: the place of a base 0 takes all that there is, and leaves 0.
func TestDigitsAtBaseZero(t *testing.T) {
	least := api.Least
	for _, c := range []struct {
		base []int
		n    int
		want []int
	}{
		{[]int{0}, 0, []int{0}},
		{[]int{0}, 17, []int{17}},
		{[]int{0}, least, []int{least}},
		{[]int{0, 10, 10}, 1234, []int{12, 3, 4}},
		{[]int{0, 10, 10}, -1, []int{-1, 9, 9}},
		{[]int{0, 10, 10}, -1234, []int{-13, 6, 6}},
		{[]int{10, 0}, 17, []int{0, 17}},
		{[]int{10, 0, 10}, 1234, []int{0, 123, 4}},
		{[]int{-3, 7, 0, 10}, -25, []int{0, 0, -3, 5}},
		{[]int{0, 0}, -17, []int{0, -17}},
		{[]int{0, 10, 0, 10}, 1234, []int{0, 0, 123, 4}},
	} {
		wantDigits(t, c.base, c.n, c.want)
	}
}

// RA2, CE1: what is left of Least by -1 runs round, as all that is told does.
func TestDigitsRunRound(t *testing.T) {
	least := api.Least
	wantDigits(t, []int{-1}, least, []int{0})
	wantDigits(t, []int{0, -1}, least, []int{least, 0})
	wantDigits(t, []int{0, -1, -1}, least, []int{least, 0, 0})
	wantDigits(t, []int{10, -1}, least, []int{2, 0})
	wantDigits(t, []int{0, 1}, least, []int{least, 0})
	wantDigits(t, []int{0, least}, least, []int{1, 0})
}

// RA2: by its words, in wide numbers.
func TestDigitsByWords(t *testing.T) {
	for _, base := range bases() {
		for _, n := range append(near(), strewn(30, 5)...) {
			wantDigits(t, base, n, byWords(base, n))
		}
	}
	for k := range 40 {
		for _, n := range near() {
			wantDigits(t, strewn(k, k), n, byWords(strewn(k, k), n))
		}
	}
	for a := -4; a <= 4; a++ {
		for b := -4; b <= 4; b++ {
			for n := -60; n <= 60; n++ {
				wantDigits(t, []int{a, b, 3}, n, byWords([]int{a, b, 3}, n))
			}
		}
	}
}

// RA2: as many bases as may be, and no more.
func TestDigitsOfManyBases(t *testing.T) {
	m := api.MaxCells
	wantDigits(t, slices.Repeat([]int{10}, m), 1234, append(make([]int, m-4), 1, 2, 3, 4))
	wantDigits(t, slices.Repeat([]int{10}, m), -1, slices.Repeat([]int{9}, m))
	wantDigits(t, make([]int, m), 5, append(make([]int, m-1), 5))
	wantDigits(t, append([]int{0}, slices.Repeat([]int{1}, m-1)...), -6, append([]int{-6}, make([]int, m-1)...))
	for _, more := range []int{m + 1, m + 2, 2 * m, 10 * m} {
		for _, fill := range []int{0, 1, 10, api.Least} {
			for _, n := range []int{0, 1234, api.Least} {
				got, err := Digits(slices.Repeat([]int{fill}, more), n)
				if len(got) != 0 || plain.Told(err) != api.ErrFull {
					t.Errorf("Digits of %d bases: got %v, %v, want nothing, ErrFull", more, brief(got), err)
				}
			}
		}
	}
}

// RA1, RA2: with a base 0 the digits of a number have it as their value; without
// one they do where a number has so few of them.
func TestDigitsHaveTheirValue(t *testing.T) {
	for _, base := range bases() {
		if !slices.Contains(base, 0) {
			continue
		}
		for _, n := range append(near(), strewn(30, 9)...) {
			digits, err := Digits(base, n)
			if err != nil {
				t.Errorf("Digits(%v, %d): got %v", base, n, err)
			}
			wantValue(t, base, digits, n)
		}
	}
	base := []int{7, 2, 5, 3}
	for n := -420; n < 420; n++ {
		digits, err := Digits(base, n)
		if err != nil {
			t.Errorf("Digits(%v, %d): got %v", base, n, err)
		}
		wantValue(t, base, digits, (n+420)%210)
	}
}

// P2, P4: what is handed in stays as it is, behind its length too, and what
// comes out is fresh memory.
func TestListsAreNeitherWrittenNorShared(t *testing.T) {
	baseBack, digitsBack := []int{0, 60, 60, -8, -8}, []int{1, 2, 3, -9, -9}
	for length := range 4 {
		base, digits := baseBack[:length], digitsBack[:length]
		wantValue(t, base, digits, []int{0, 1, 62, 3723}[length])
		first, err := Digits(base, 3723)
		told := slices.Clone(first)
		for whole, i := first[:cap(first)], 0; i < len(whole); i++ {
			whole[i] = -7
		}
		if err != nil {
			t.Errorf("Digits(%v, 3723): got %v", base, err)
		}
		wantDigits(t, base, 3723, told)
	}
	if !slices.Equal(baseBack, []int{0, 60, 60, -8, -8}) || !slices.Equal(digitsBack, []int{1, 2, 3, -9, -9}) {
		t.Errorf("written into: %v, %v", baseBack, digitsBack)
	}
}

// P2: one list may be handed in twice.
func TestOneListIsBaseAndDigits(t *testing.T) {
	list := []int{2, 3, 4}
	wantValue(t, list, list, (2*3+3)*4+4)
	if !slices.Equal(list, []int{2, 3, 4}) {
		t.Errorf("written into: %v", list)
	}
}
