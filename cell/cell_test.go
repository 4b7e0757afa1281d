package cell

import (
	"math"
	"math/big"
	"slices"
	"testing"

	"ravelin/api"
	"ravelin/plain"
)

// near are numbers about 0, about the ends and about the places where products
// begin to run round.
func near() []int {
	var all []int
	for d := -4; d <= 4; d++ {
		all = append(all, d, 1<<31+d, -1<<31+d, 1<<32+d, 1<<62+d, -1<<62+d, 3037000500+d)
	}
	for d := range 4 {
		all = append(all, api.Least+d, api.Greatest-d)
	}
	return append(all, 12, -18, 97, 6700417, -1000000007, 4611686018427387847)
}

// round is the number from Least to Greatest that is x modulo 2^64.
func round(x *big.Int) int {
	whole := new(big.Int).Lsh(big.NewInt(1), 64)
	return int(new(big.Int).Mod(x, whole).Uint64())
}

func wide(a int) *big.Int { return big.NewInt(int64(a)) }

// others are numbers of functions that are none from cells to a cell.
func others() []api.Fn {
	fs := []api.Fn{math.MinInt, -17, -1, 0, math.MaxInt}
	for f := api.Rho; f <= api.Slope+2; f++ {
		fs = append(fs, f)
	}
	return fs
}

// CE1: functions of one number.
func TestOneTells(t *testing.T) {
	for _, c := range []struct {
		f       api.Fn
		a, want int
	}{
		{api.Add, 0, 0},
		{api.Add, -7, -7},
		{api.Add, api.Least, api.Least},
		{api.Add, api.Greatest, api.Greatest},
		{api.Sub, 0, 0},
		{api.Sub, 5, -5},
		{api.Sub, -5, 5},
		{api.Sub, api.Greatest, -api.Greatest},
		{api.Sub, -api.Greatest, api.Greatest},
		{api.Sub, api.Least, api.Least},
		{api.Mul, 0, 0},
		{api.Mul, 1, 1},
		{api.Mul, -1, -1},
		{api.Mul, 40, 1},
		{api.Mul, -40, -1},
		{api.Mul, api.Least, -1},
		{api.Mul, api.Greatest, 1},
		{api.Res, 0, 0},
		{api.Res, 5, 5},
		{api.Res, -5, 5},
		{api.Res, api.Greatest, api.Greatest},
		{api.Res, -api.Greatest, api.Greatest},
		{api.Res, api.Least, api.Least},
		{api.Not, 0, 1},
		{api.Not, 1, 0},
	} {
		if got, err := One(c.f, c.a); got != c.want || err != nil {
			t.Errorf("One(%d, %d): got %d, %v, want %d", c.f, c.a, got, err, c.want)
		}
	}
}

// CE1: Not has a value of 0 and 1 alone, and of all functions there are five.
func TestOneRefuses(t *testing.T) {
	five := []api.Fn{api.Add, api.Sub, api.Mul, api.Res, api.Not}
	for _, a := range near() {
		if a != 0 && a != 1 {
			if got, err := One(api.Not, a); got != 0 || plain.Told(err) != api.ErrDomain {
				t.Errorf("One(Not, %d): got %d, %v, want 0, ErrDomain", a, got, err)
			}
		}
		for f := api.Add; f <= api.Not; f++ {
			_, err := One(f, a)
			if is := plain.Told(err) == api.ErrSyntax; is == slices.Contains(five, f) {
				t.Errorf("One(%d, %d): got %v", f, a, err)
			}
		}
		for _, f := range others() {
			if got, err := One(f, a); got != 0 || plain.Told(err) != api.ErrSyntax {
				t.Errorf("One(%d, %d): got %d, %v, want 0, ErrSyntax", f, a, got, err)
			}
		}
	}
}

// CE2: functions of two numbers.
func TestTwoTells(t *testing.T) {
	for _, c := range []struct {
		f          api.Fn
		a, b, want int
	}{
		{api.Add, 2, 3, 5},
		{api.Add, api.Greatest, 1, api.Least},
		{api.Sub, 2, 3, -1},
		{api.Sub, api.Least, 1, api.Greatest},
		{api.Mul, -4, 3, -12},
		{api.Mul, api.Least, -1, api.Least},
		{api.Mul, 1 << 32, 1 << 32, 0},
		{api.Div, 7, 2, 3},
		{api.Div, -7, 2, -4},
		{api.Div, 7, -2, -4},
		{api.Div, -7, -2, 3},
		{api.Div, 6, -2, -3},
		{api.Div, 0, -2, 0},
		{api.Div, -1, api.Greatest, -1},
		{api.Div, api.Least, -1, api.Least},
		{api.Div, api.Least, 1, api.Least},
		{api.Res, 3, 7, 1},
		{api.Res, 3, -7, 2},
		{api.Res, -3, 7, -2},
		{api.Res, -3, -7, -1},
		{api.Res, 3, 6, 0},
		{api.Res, 7, 3, 3},
		{api.Res, 0, 7, 7},
		{api.Res, 0, 0, 0},
		{api.Res, 0, api.Least, api.Least},
		{api.Res, -1, api.Least, 0},
		{api.Res, api.Least, 1, api.Least + 1},
		{api.Res, api.Least, -1, -1},
		{api.Max, -2, 3, 3},
		{api.Max, api.Greatest, api.Least, api.Greatest},
		{api.Min, -2, 3, -2},
		{api.Min, api.Greatest, api.Least, api.Least},
		{api.And, 6, -4, 4},
		{api.And, 12, 10, 8},
		{api.Or, 12, 10, 14},
		{api.Or, api.Least, api.Greatest, -1},
		{api.Pow, 3, 4, 81},
		{api.Pow, -2, 3, -8},
		{api.Pow, 0, 0, 1},
		{api.Pow, 0, 5, 0},
		{api.Pow, 0, api.Greatest, 0},
		{api.Pow, api.Least, 0, 1},
		{api.Pow, api.Least, 1, api.Least},
		{api.Pow, api.Least, 2, 0},
		{api.Pow, -1, api.Greatest, -1},
		{api.Pow, -1, api.Greatest - 1, 1},
		{api.Pow, 2, 62, 1 << 62},
		{api.Pow, 2, 63, api.Least},
		{api.Pow, 2, 64, 0},
	} {
		if got, err := Two(c.f, c.a, c.b); got != c.want || err != nil {
			t.Errorf("Two(%d, %d, %d): got %d, %v, want %d", c.f, c.a, c.b, got, err, c.want)
		}
	}
}

// CE2: arithmetic is that of all whole numbers, which then runs round.
func TestTwoRunsRound(t *testing.T) {
	whole := new(big.Int).Lsh(big.NewInt(1), 64)
	for _, a := range near() {
		for _, b := range near() {
			want := map[api.Fn]int{
				api.Add: round(new(big.Int).Add(wide(a), wide(b))),
				api.Sub: round(new(big.Int).Sub(wide(a), wide(b))),
				api.Mul: round(new(big.Int).Mul(wide(a), wide(b))),
				api.And: round(new(big.Int).And(wide(a), wide(b))),
				api.Or:  round(new(big.Int).Or(wide(a), wide(b))),
			}
			if b >= 0 {
				want[api.Pow] = round(new(big.Int).Exp(wide(a), wide(b), whole))
			}
			for f, w := range want {
				if got, err := Two(f, a, b); got != w || err != nil {
					t.Errorf("Two(%d, %d, %d): got %d, %v, want %d", f, a, b, got, err, w)
				}
			}
		}
	}
}

// CE2: Div is the greatest whole number that is not above a / b, and Res what
// it leaves: from 0 to below the divisor, with its sign.
func TestDivAndResGoTogether(t *testing.T) {
	for _, a := range near() {
		for _, b := range near() {
			if b == 0 {
				continue
			}
			rest, err := Two(api.Res, b, a)
			if err != nil || rest != 0 && (rest < 0) != (b < 0) || wide(rest).CmpAbs(wide(b)) >= 0 {
				t.Errorf("Two(Res, %d, %d): got %d, %v", b, a, rest, err)
			}
			q := new(big.Int).Sub(wide(a), wide(rest))
			q, left := q.QuoRem(q, wide(b), new(big.Int))
			if left.Sign() != 0 {
				t.Errorf("Two(Res, %d, %d): got %d: something more is left", b, a, rest)
			}
			if got, err := Two(api.Div, a, b); got != round(q) || err != nil {
				t.Errorf("Two(Div, %d, %d): got %d, %v, want %v", a, b, got, err, q)
			}
		}
		if got, err := Two(api.Res, 0, a); got != a || err != nil {
			t.Errorf("Two(Res, 0, %d): got %d, %v", a, got, err)
		}
	}
}

// CE2: what is compared is 0 or 1, by the order of numbers.
func TestTwoCompares(t *testing.T) {
	for _, a := range near() {
		for _, b := range near() {
			sign := wide(a).Cmp(wide(b))
			greater, less := a, b
			if sign < 0 {
				greater, less = b, a
			}
			for f, is := range map[api.Fn]bool{
				api.Eq: sign == 0, api.Ne: sign != 0,
				api.Lt: sign < 0, api.Le: sign <= 0,
				api.Ge: sign >= 0, api.Gt: sign > 0,
			} {
				want := 0
				if is {
					want = 1
				}
				if got, err := Two(f, a, b); got != want || err != nil {
					t.Errorf("Two(%d, %d, %d): got %d, %v, want %d", f, a, b, got, err, want)
				}
			}
			if got, err := Two(api.Max, a, b); got != greater || err != nil {
				t.Errorf("Two(Max, %d, %d): got %d, %v", a, b, got, err)
			}
			if got, err := Two(api.Min, a, b); got != less || err != nil {
				t.Errorf("Two(Min, %d, %d): got %d, %v", a, b, got, err)
			}
		}
	}
}

// CE2: what Two refuses, whatever the numbers are.
func TestTwoRefuses(t *testing.T) {
	for _, a := range near() {
		if got, err := Two(api.Div, a, 0); got != 0 || plain.Told(err) != api.ErrDomain {
			t.Errorf("Two(Div, %d, 0): got %d, %v, want 0, ErrDomain", a, got, err)
		}
		for _, b := range near() {
			if b < 0 {
				if got, err := Two(api.Pow, a, b); got != 0 || plain.Told(err) != api.ErrDomain {
					t.Errorf("Two(Pow, %d, %d): got %d, %v, want 0, ErrDomain", a, b, got, err)
				}
			}
			for _, f := range append(others(), api.Not) {
				if got, err := Two(f, a, b); got != 0 || plain.Told(err) != api.ErrSyntax {
					t.Errorf("Two(%d, %d, %d): got %d, %v, want 0, ErrSyntax", f, a, b, got, err)
				}
			}
		}
	}
}

// CE3: the number that changes nothing, or what is told of a function that has
// none.
func TestNeutralTells(t *testing.T) {
	for f, want := range map[api.Fn]int{
		api.Add: 0, api.Sub: 0, api.Res: 0, api.Or: 0,
		api.Mul: 1, api.Div: 1, api.Pow: 1,
		api.Max: api.Least, api.Min: api.Greatest, api.And: -1,
	} {
		if got, err := Neutral(f); got != want || err != nil {
			t.Errorf("Neutral(%d): got %d, %v, want %d", f, got, err, want)
		}
	}
	for f := api.Eq; f <= api.Gt; f++ {
		if got, err := Neutral(f); got != 0 || plain.Told(err) != api.ErrDomain {
			t.Errorf("Neutral(%d): got %d, %v, want 0, ErrDomain", f, got, err)
		}
	}
	for _, f := range append(others(), api.Not) {
		if got, err := Neutral(f); got != 0 || plain.Told(err) != api.ErrSyntax {
			t.Errorf("Neutral(%d): got %d, %v, want 0, ErrSyntax", f, got, err)
		}
	}
}

// CE3: it does change nothing, on the right, or on the left of Res.
func TestNeutralChangesNothing(t *testing.T) {
	for f := api.Add; f <= api.Pow; f++ {
		e, err := Neutral(f)
		if err != nil {
			continue
		}
		for _, a := range near() {
			left, right := a, e
			if f == api.Res {
				left, right = e, a
			}
			if got, err := Two(f, left, right); got != a || err != nil {
				t.Errorf("Two(%d, %d, %d): got %d, %v, want %d", f, left, right, got, err, a)
			}
		}
	}
}

// CE4: the row that Euclid's end with.
func TestBezoutTells(t *testing.T) {
	for _, c := range []struct{ a, b, g, x, y int }{
		{0, 0, 0, 1, 0},
		{5, 0, 5, 1, 0},
		{-5, 0, 5, -1, 0},
		{0, 5, 5, 0, 1},
		{0, -5, 5, 0, -1},
		{1, 1, 1, 0, 1},
		{7, 7, 7, 0, 1},
		{7, -7, 7, 0, -1},
		{-7, -7, 7, 0, -1},
		{12, 18, 6, -1, 1},
		{12, -18, 6, -1, -1},
		{-12, 18, 6, 1, 1},
		{-12, -18, 6, 1, -1},
		{18, 12, 6, 1, -1},
		{240, 46, 2, -9, 47},
		{46, 240, 2, 47, -9},
		{3, 1, 1, 0, 1},
		{1, 3, 1, 1, 0},
		{3, 2, 1, 1, -1},
		{-3, 2, 1, -1, -1},
		{api.Greatest, api.Greatest, api.Greatest, 0, 1},
		{-api.Greatest, api.Greatest, api.Greatest, 0, 1},
		{api.Greatest, -1, 1, 0, -1},
		{api.Greatest, api.Greatest - 1, 1, 1, -1},
		{api.Greatest, 2, 1, 1, -(api.Greatest / 2)},
	} {
		g, x, y, err := Bezout(c.a, c.b)
		if g != c.g || x != c.x || y != c.y || err != nil {
			t.Errorf("Bezout(%d, %d): got %d, %d, %d, %v, want %d, %d, %d", c.a, c.b, g, x, y, err, c.g, c.x, c.y)
		}
	}
}

// CE4: what is told divides both and is their sum, as whole numbers that do
// not run round.
func TestBezoutIsTheSum(t *testing.T) {
	for _, a := range near() {
		for _, b := range near() {
			g, x, y, err := Bezout(a, b)
			if a == api.Least || b == api.Least {
				if g != 0 || x != 0 || y != 0 || plain.Told(err) != api.ErrDomain {
					t.Errorf("Bezout(%d, %d): got %d, %d, %d, %v, want 0, 0, 0, ErrDomain", a, b, g, x, y, err)
				}
				continue
			}
			common := new(big.Int).GCD(nil, nil, new(big.Int).Abs(wide(a)), new(big.Int).Abs(wide(b)))
			sum := new(big.Int).Mul(wide(a), wide(x))
			sum.Add(sum, new(big.Int).Mul(wide(b), wide(y)))
			if err != nil || wide(g).Cmp(common) != 0 || sum.Cmp(common) != 0 {
				t.Errorf("Bezout(%d, %d): got %d, %d, %d, %v", a, b, g, x, y, err)
			}
		}
	}
}
