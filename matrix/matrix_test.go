package matrix

import (
	"math/big"
	"math/bits"
	"slices"
	"testing"

	"ravelin/api"
	"ravelin/arr"
	"ravelin/each"
	"ravelin/perm"
	"ravelin/plain"
	"ravelin/prod"
	"ravelin/turn"
)

// nums is an array of numbers, written short.
func nums(s []int, data ...int) api.Array { return api.Array{Shape: s, Data: data} }

// square is a matrix of n rows.
func square(n int, data ...int) api.Array { return nums([]int{n, n}, data...) }

// filled is a matrix of n rows with what of tells of each place.
func filled(n int, of func(place int) int) api.Array {
	data := make([]int, n*n)
	for place := range data {
		data[place] = of(place)
	}
	return square(n, data...)
}

// diagonal is x in the diagonal of n rows, and 0 elsewhere.
func diagonal(n, x int) api.Array {
	return filled(n, func(place int) int {
		if place/n == place%n {
			return x
		}
		return 0
	})
}

// fillings are rules by which cells are filled: with small numbers and with such
// as run round when they are multiplied.
func fillings() []func(place int) int {
	return []func(int) int{
		func(int) int { return 0 },
		func(int) int { return 1 },
		func(place int) int { return place },
		func(place int) int { return place*7%5 - 2 },
		func(place int) int { return place*place*11%13 - 6 },
		func(place int) int { return (place + 3) * (place + 1) * 6364136223846793005 },
		func(place int) int { return (place*place + 1) * 0x1e3779b97f4a7c15 >> 3 },
		func(place int) int { return []int{api.Least, -1, 0, 1, api.Greatest, 2, -2}[place%7] },
		func(place int) int { return []int{5, 0, 3, 0, 1 << 40, 0, 0, 1}[place%8] },
		func(place int) int { return place ^ place>>1 ^ place*place>>2 },
	}
}

// matrices are some of each number of rows.
func matrices() []api.Array {
	var all []api.Array
	for n := range api.MaxOrder + 1 {
		for _, of := range fillings() {
			all = append(all, filled(n, of))
		}
		all = append(all, diagonal(n, 1), diagonal(n, -3), diagonal(n, api.Least))
	}
	return all
}

// rowsOf is how many rows a matrix has.
func rowsOf(a api.Array) int { return a.Shape[0] }

func same(a, b api.Array) bool {
	return a.Char == b.Char && slices.Equal(a.Shape, b.Shape) && slices.Equal(a.Data, b.Data)
}

// wantArray holds what is told against what should be.
func wantArray(t *testing.T, got api.Array, err error, want api.Array) {
	t.Helper()
	if !same(got, want) || err != nil {
		t.Errorf("got %v, %v, want %v", got, err, want)
	}
}

// must is an array that is told without an error.
func must(t *testing.T, a api.Array, err error) api.Array {
	t.Helper()
	if err != nil {
		t.Fatal(err)
	}
	return a
}

// times is the product of two matrices, by the words of chapter 13.
func times(t *testing.T, a, b api.Array) api.Array {
	t.Helper()
	told, err := prod.Inner(api.Add, api.Mul, a, b)
	return must(t, told, err)
}

// detByWords is the sum over all orders, as MA1 has it, of whole numbers that do
// not run round.
func detByWords(t *testing.T, a api.Array) *big.Int {
	t.Helper()
	n, sum := rowsOf(a), new(big.Int)
	for rank := 0; ; rank++ {
		p, err := perm.Unrank(n, rank)
		if err != nil {
			return sum
		}
		sign, err := perm.Sign(p)
		if err != nil {
			t.Fatal(err)
		}
		product := big.NewInt(int64(sign))
		for i, column := range p {
			product.Mul(product, big.NewInt(int64(a.Data[i*n+column])))
		}
		sum.Add(sum, product)
	}
}

// round is the number from Least to Greatest that is x modulo 2^64.
func round(x *big.Int) int {
	whole := new(big.Int).Lsh(big.NewInt(1), 64)
	return int(new(big.Int).Mod(x, whole).Uint64())
}

// part is what a has in the rows and the columns that keep tells of, as a matrix
// of so many rows.
func part(a api.Array, rows int, keep func(row, column int) bool) api.Array {
	var data []int
	for place, x := range a.Data {
		if keep(place/rowsOf(a), place%rowsOf(a)) {
			data = append(data, x)
		}
	}
	return square(rows, data...)
}

// MA1: determinants that are known.
func TestDetTells(t *testing.T) {
	for _, c := range []struct {
		a    api.Array
		want int
	}{
		{square(0), 1},
		{square(1, 0), 0},
		{square(1, -7), -7},
		{square(1, api.Least), api.Least},
		{square(2, 3, 1, 4, 2), 2},
		{square(2, 0, 1, 1, 0), -1},
		{square(2, 1, 2, 2, 4), 0},
		{square(3, 2, 0, 1, 1, 3, 2, 1, 1, 4), 18},
		{square(3, 0, 1, 0, 0, 0, 1, 1, 0, 0), 1},
		{square(3, 1, 2, 3, 4, 5, 6, 7, 8, 9), 0},
		{square(3, 6, 1, 1, 4, -2, 5, 2, 8, 7), -306},
		{square(4, 1, 1, 1, 1, 1, 2, 4, 8, 1, 3, 9, 27, 1, 4, 16, 64), 12},
		{square(4, 0, 0, 0, 1, 0, 0, 1, 0, 0, 1, 0, 0, 1, 0, 0, 0), 1},
		{square(5, 2, 1, 0, 0, 0, 1, 2, 1, 0, 0, 0, 1, 2, 1, 0, 0, 0, 1, 2, 1, 0, 0, 0, 1, 2), 6},
		{diagonal(6, 2), 64},
		{diagonal(6, -1), 1},
		{diagonal(5, -1), -1},
		{diagonal(2, api.Least), 0},
		{diagonal(2, 1<<32), 0},
		{square(2, api.Greatest, 1, 1, api.Greatest), 0},
		{square(2, api.Greatest, 0, 0, 2), -2},
		{square(2, api.Least, 1, 1, -1), api.Greatest},
		{diagonal(6, 1<<11), 0},
		{diagonal(3, 1<<21), api.Least},
	} {
		if got, err := Det(c.a); got != c.want || err != nil {
			t.Errorf("Det(%v): got %d, %v, want %d", c.a, got, err, c.want)
		}
	}
}

// MA1: by its words, of many matrices.
func TestDetIsTheSumOverAllOrders(t *testing.T) {
	for _, a := range matrices() {
		want := round(detByWords(t, a))
		if got, err := Det(a); got != want || err != nil {
			t.Errorf("Det(%v): got %d, %v, want %d", a, got, err, want)
		}
	}
}

// MA1: of an order as a matrix it is the order's sign.
func TestDetOfAnOrderIsItsSign(t *testing.T) {
	for n := range api.MaxOrder + 1 {
		for rank := 0; ; rank++ {
			p, err := perm.Unrank(n, rank)
			if err != nil {
				break
			}
			a := filled(n, func(int) int { return 0 })
			for i, column := range p {
				a.Data[i*n+column] = 1
			}
			sign, _ := perm.Sign(p)
			if got, err := Det(a); got != sign || err != nil {
				t.Errorf("Det of %v: got %d, %v, want %d", p, got, err, sign)
			}
		}
	}
}

// MA1: it is the same with rows and columns exchanged, and of a product it is the
// product.
func TestDetIsThatOfMatrices(t *testing.T) {
	for _, a := range matrices() {
		d, err := Det(a)
		if err != nil {
			t.Fatal(err)
		}
		flipped, err := turn.Flip([]int{1, 0}, a)
		if got, err := Det(must(t, flipped, err)); got != d || err != nil {
			t.Errorf("Det(%v): got %d, %v, want %d", flipped, got, err, d)
		}
		for _, of := range fillings() {
			b := filled(rowsOf(a), of)
			e, err := Det(b)
			if err != nil {
				t.Fatal(err)
			}
			if got, err := Det(times(t, a, b)); got != d*e || err != nil {
				t.Errorf("Det of %v times %v: got %d, %v, want %d", a, b, got, err, d*e)
			}
		}
	}
}

// MA2: adjugates that are known.
func TestAdjugateTells(t *testing.T) {
	for _, c := range []struct{ a, want api.Array }{
		{square(0), square(0)},
		{square(1, 7), square(1, 1)},
		{square(1, 0), square(1, 1)},
		{square(2, 3, 1, 4, 2), square(2, 2, -1, -4, 3)},
		{square(2, 0, 0, 0, 0), square(2, 0, 0, 0, 0)},
		{square(2, 1, api.Least, 3, 4), square(2, 4, api.Least, -3, 1)},
		{square(3, -3, 2, -5, -1, 0, -2, 3, -4, 1), square(3, -8, 18, -4, -5, 12, -1, 4, -6, 2)},
		{square(3, 0, 0, 0, 0, 0, 0, 0, 0, 5), square(3, 0, 0, 0, 0, 0, 0, 0, 0, 0)},
		{diagonal(6, 2), diagonal(6, 32)},
		{diagonal(6, -1), diagonal(6, -1)},
	} {
		got, err := Adjugate(c.a)
		wantArray(t, got, err, c.want)
	}
}

// MA2: by its words, of many matrices.
func TestAdjugateHasTheMinors(t *testing.T) {
	for _, a := range matrices() {
		n := rowsOf(a)
		want := filled(n, func(place int) int {
			i, j := place/n, place%n
			minor := part(a, n-1, func(row, column int) bool { return row != j && column != i })
			if (i+j)%2 == 1 {
				return -round(detByWords(t, minor))
			}
			return round(detByWords(t, minor))
		})
		got, err := Adjugate(a)
		wantArray(t, got, err, want)
	}
}

// MA2: with the matrix, either way round, it makes Det in the diagonal.
func TestAdjugateMakesDet(t *testing.T) {
	for _, a := range matrices() {
		told, err := Adjugate(a)
		d, detErr := Det(a)
		if err != nil || detErr != nil {
			t.Fatal(err, detErr)
		}
		want := diagonal(rowsOf(a), d)
		wantArray(t, times(t, a, told), nil, want)
		wantArray(t, times(t, told, a), nil, want)
	}
}

// MA3: polynomials that are known.
func TestCharacteristicTells(t *testing.T) {
	for _, c := range []struct {
		a    api.Array
		want []int
	}{
		{square(0), []int{1}},
		{square(1, 0), []int{0, 1}},
		{square(1, 7), []int{-7, 1}},
		{square(1, api.Least), []int{api.Least, 1}},
		{square(2, 3, 1, 4, 2), []int{2, -5, 1}},
		{square(2, 0, 1, 1, 0), []int{-1, 0, 1}},
		{square(3, 0, 0, 5, 1, 0, 6, 0, 1, 7), []int{-5, -6, -7, 1}},
		{square(3, 1, 9, 9, 0, 2, 9, 0, 0, 3), []int{-6, 11, -6, 1}},
		{square(3, 0, 1, 0, 0, 0, 1, 0, 0, 0), []int{0, 0, 0, 1}},
		{diagonal(4, 1), []int{1, -4, 6, -4, 1}},
		{diagonal(5, 1), []int{-1, 5, -10, 10, -5, 1}},
		{diagonal(6, 2), []int{64, -192, 240, -160, 60, -12, 1}},
		{diagonal(2, 1<<62), []int{0, api.Least, 1}},
	} {
		if got, err := Characteristic(c.a); !slices.Equal(got, c.want) || err != nil {
			t.Errorf("Characteristic(%v): got %v, %v, want %v", c.a, got, err, c.want)
		}
	}
}

// MA3: by its words, of many matrices.
func TestCharacteristicSumsTheMinors(t *testing.T) {
	for _, a := range matrices() {
		n := rowsOf(a)
		want := make([]int, n+1)
		for set := range uint(1) << n {
			k := bits.OnesCount(set)
			minor := part(a, k, func(row, column int) bool { return set>>row&1 == 1 && set>>column&1 == 1 })
			d := round(detByWords(t, minor))
			if k%2 == 1 {
				d = -d
			}
			want[n-k] += d
		}
		if got, err := Characteristic(a); !slices.Equal(got, want) || err != nil {
			t.Errorf("Characteristic(%v): got %v, %v, want %v", a, got, err, want)
		}
	}
}

// MA3: at each number x it is Det of x in the diagonal less the matrix, and the
// matrix itself makes it 0.
func TestCharacteristicIsThatOfTheMatrix(t *testing.T) {
	for _, a := range matrices() {
		c, err := Characteristic(a)
		if err != nil {
			t.Fatal(err)
		}
		for _, x := range []int{0, 1, -1, 2, 10, 12345678901, api.Least, api.Greatest} {
			value := 0
			for _, number := range slices.Backward(c) {
				value = value*x + number
			}
			less, err := each.Two(api.Sub, diagonal(rowsOf(a), x), a)
			if got, err := Det(must(t, less, err)); got != value || err != nil {
				t.Errorf("Characteristic(%v) at %d: got %d, want %d, %v", a, x, value, got, err)
			}
		}
		value := diagonal(rowsOf(a), 0)
		for _, number := range slices.Backward(c) {
			sum, err := each.Two(api.Add, times(t, value, a), diagonal(rowsOf(a), number))
			value = must(t, sum, err)
		}
		wantArray(t, value, nil, diagonal(rowsOf(a), 0))
	}
}

// MA4: powers that are known.
func TestPowerTells(t *testing.T) {
	for _, c := range []struct {
		a    api.Array
		k    int
		want api.Array
	}{
		{square(0), 0, square(0)},
		{square(0), 1, square(0)},
		{square(0), api.Greatest, square(0)},
		{square(1, 0), 0, square(1, 1)},
		{square(1, 0), 1, square(1, 0)},
		{square(1, 3), 4, square(1, 81)},
		{square(1, -1), api.Greatest, square(1, -1)},
		{square(1, 2), 63, square(1, api.Least)},
		{square(1, 2), 64, square(1, 0)},
		{square(2, 0, 0, 0, 0), 0, square(2, 1, 0, 0, 1)},
		{square(2, 1, 1, 1, 0), 7, square(2, 21, 13, 13, 8)},
		{square(2, 1, 1, 1, 0), 92, square(2, -6246583658587674878, 7540113804746346429, 7540113804746346429, 4660046610375530309)},
		{square(2, 1, 1, 0, 1), api.Greatest, square(2, 1, api.Greatest, 0, 1)},
		{square(2, 1, 2, 0, 1), api.Greatest, square(2, 1, -2, 0, 1)},
		{square(2, 0, -1, 1, 0), api.Greatest, square(2, 0, 1, -1, 0)},
		{square(3, 0, 1, 0, 0, 0, 1, 0, 0, 0), 2, square(3, 0, 0, 1, 0, 0, 0, 0, 0, 0)},
		{square(3, 0, 1, 0, 0, 0, 1, 0, 0, 0), 3, diagonal(3, 0)},
		{square(3, 0, 1, 0, 0, 0, 1, 1, 0, 0), 1 << 60, square(3, 0, 1, 0, 0, 0, 1, 1, 0, 0)},
		{diagonal(6, 3), 5, diagonal(6, 243)},
	} {
		got, err := Power(c.a, c.k)
		wantArray(t, got, err, c.want)
	}
}

// MA4: once more by Inner for each 1 more, of many matrices.
func TestPowerIsInnerSoOften(t *testing.T) {
	for _, a := range matrices() {
		want := diagonal(rowsOf(a), 1)
		for k := range 20 {
			got, err := Power(a, k)
			wantArray(t, got, err, want)
			want = times(t, want, a)
		}
	}
}

// MA4: two powers make that of the sum, and one of another that of the product,
// whatever k is.
func TestPowerOfGreatNumbers(t *testing.T) {
	for _, a := range matrices() {
		for _, k := range []int{1 << 20, 999999937, 1<<40 - 1, 1 << 61, 1<<62 - 1, 4 * 1152921504606846975} {
			half := powered(t, a, k)
			rest := powered(t, a, api.Greatest-k)
			wantArray(t, times(t, half, rest), nil, powered(t, a, api.Greatest))
			wantArray(t, powered(t, powered(t, a, 2), k/2), nil, powered(t, a, k/2*2))
		}
	}
}

// powered is a power that is told without an error.
func powered(t *testing.T, a api.Array, k int) api.Array {
	t.Helper()
	told, err := Power(a, k)
	return must(t, told, err)
}

// MA4: k is below 0, even where there is an inverse.
func TestPowerRefusesNumbersBelowNone(t *testing.T) {
	for _, a := range matrices() {
		for _, k := range []int{-1, -2, -api.Greatest, api.Least} {
			if got, err := Power(a, k); !same(got, api.Array{}) || plain.Told(err) != api.ErrDomain {
				t.Errorf("Power(%v, %d): got %v, %v, want nothing, ErrDomain", a, k, got, err)
			}
		}
	}
}

// MA5: inverses that are known.
func TestInverseTells(t *testing.T) {
	for _, c := range []struct{ a, want api.Array }{
		{square(0), square(0)},
		{square(1, 1), square(1, 1)},
		{square(1, -1), square(1, -1)},
		{square(1, 3), square(1, -6148914691236517205)},
		{square(1, api.Greatest), square(1, api.Greatest)},
		{square(1, api.Least+1), square(1, api.Least+1)},
		{square(2, 2, 1, 1, 1), square(2, 1, -1, -1, 2)},
		{square(2, 0, 1, 1, 0), square(2, 0, 1, 1, 0)},
		{square(2, 1, api.Least, 0, 1), square(2, 1, api.Least, 0, 1)},
		{square(2, 2, 1, 1, 2), square(2, 6148914691236517206, 6148914691236517205, 6148914691236517205, 6148914691236517206)},
		{square(3, 1, 2, 3, 0, 1, 4, 0, 0, 1), square(3, 1, -2, 5, 0, 1, -4, 0, 0, 1)},
		{square(3, 0, 1, 0, 0, 0, 1, 1, 0, 0), square(3, 0, 0, 1, 1, 0, 0, 0, 1, 0)},
		{diagonal(6, -1), diagonal(6, -1)},
		{diagonal(6, 3), diagonal(6, -6148914691236517205)},
	} {
		got, err := Inverse(c.a)
		wantArray(t, got, err, c.want)
	}
}

// MA5: of each odd number there is one.
func TestInverseOfOddNumbers(t *testing.T) {
	for shift := range 64 {
		for d := -33; d <= 33; d += 2 {
			for _, x := range []int{d, d + 1<<shift&^1, d * (1<<shift | 1)} {
				got, err := Inverse(square(1, x))
				if err != nil || got.Data[0]*x != 1 {
					t.Errorf("Inverse of %d: got %v, %v", x, got, err)
				}
			}
		}
	}
}

// MA5: where Det is odd it makes, either way round, 1 in the diagonal, and the
// inverse's inverse is the matrix again; where it is even, there is none.
func TestInverseUndoes(t *testing.T) {
	odd, even := 0, 0
	for _, a := range matrices() {
		for _, more := range []int{0, 1, -1, 1 << 50} {
			sum, err := each.Two(api.Add, a, diagonal(rowsOf(a), more))
			sum = must(t, sum, err)
			got, err := Inverse(sum)
			if detByWords(t, sum).Bit(0) == 0 {
				even++
				if !same(got, api.Array{}) || plain.Told(err) != api.ErrDomain {
					t.Errorf("Inverse(%v): got %v, %v, want nothing, ErrDomain", sum, got, err)
				}
				continue
			}
			odd++
			got = must(t, got, err)
			want := diagonal(rowsOf(a), 1)
			wantArray(t, times(t, sum, got), nil, want)
			wantArray(t, times(t, got, sum), nil, want)
			again, err := Inverse(got)
			wantArray(t, again, err, sum)
		}
	}
	if odd < 50 || even < 50 {
		t.Errorf("%d matrices have an inverse, %d have none: too few to tell", odd, even)
	}
}

// MA5: Det is even.
func TestInverseRefuses(t *testing.T) {
	for _, a := range []api.Array{
		square(1, 0), square(1, 2), square(1, -2), square(1, api.Least),
		square(2, 3, 1, 4, 2), square(2, 1, 1, 1, 1), square(2, 0, 0, 0, 0), square(2, 1, 2, 2, 4),
		square(3, 1, 2, 3, 4, 5, 6, 7, 8, 9), diagonal(4, 2), diagonal(6, 0), diagonal(6, 1<<11),
	} {
		if got, err := Inverse(a); !same(got, api.Array{}) || plain.Told(err) != api.ErrDomain {
			t.Errorf("Inverse(%v): got %v, %v, want nothing, ErrDomain", a, got, err)
		}
	}
}

// wrong is an array that is no matrix, and what is told of it.
type wrong struct {
	a    api.Array
	want api.Errno
}

// wrongArrays are those that Check refuses, and those that it does not. Where
// more than one thing is wrong, that which is named first is told.
func wrongArrays() []wrong {
	m := api.MaxCells
	var all []wrong
	add := func(want api.Errno, char bool, many int, s ...int) {
		all = append(all, wrong{api.Array{Char: char, Shape: s, Data: make([]int, many)}, want})
	}
	for _, char := range []bool{false, true} {
		add(api.ErrRank, char, 1, 1, 1, 1, 1, 1, 1, 1)
		add(api.ErrLength, char, 0, -1, -1)
		add(api.ErrLength, char, 4, -2, -2)
		add(api.ErrFull, char, 0, m+1, m+1)
		add(api.ErrFull, char, 0, 65, 65)
		add(api.ErrFull, char, 0, m+1)
		add(api.ErrLength, char, 0)
		add(api.ErrLength, char, 3, 2, 2)
		add(api.ErrLength, char, 5, 2, 2)
		add(api.ErrLength, char, 1, 0, 0)
		add(api.ErrLength, char, 48, 7, 7)
		add(api.ErrLength, char, 3, 4)
		add(api.ErrRank, char, 1)
		add(api.ErrRank, char, 0, 0)
		add(api.ErrRank, char, 1, 1)
		add(api.ErrRank, char, 4, 4)
		add(api.ErrRank, char, m, m)
		add(api.ErrRank, char, 1, 1, 1, 1)
		add(api.ErrRank, char, 8, 2, 2, 2)
		add(api.ErrRank, char, 12, 3, 2, 2)
		add(api.ErrRank, char, 0, 0, 0, 0, 0, 0, 0)
		add(api.ErrRank, char, 343, 7, 7, 7)
		add(api.ErrLength, char, 6, 2, 3)
		add(api.ErrLength, char, 6, 3, 2)
		add(api.ErrLength, char, 0, 0, 1)
		add(api.ErrLength, char, 0, 1, 0)
		add(api.ErrLength, char, 0, 0, 7)
		add(api.ErrLength, char, 42, 7, 6)
		add(api.ErrLength, char, 42, 6, 7)
		add(api.ErrLength, char, 56, 7, 8)
		add(api.ErrLength, char, m, 1, m)
		add(api.ErrFull, char, 49, 7, 7)
		add(api.ErrFull, char, 64, 8, 8)
		add(api.ErrFull, char, m, 64, 64)
	}
	for n := range api.MaxOrder + 1 {
		add(api.ErrDomain, true, n*n, n, n)
	}
	for _, s := range [][]int{nil, {1}, {1, 1}, {1, 1, 1}, {3, 1}, {7, 7}} {
		many := 1
		for _, length := range s {
			many *= length
		}
		// Check comes ahead of all else: a cell that is no character, whatever the
		// axes are.
		data := make([]int, many)
		data[many-1] = 55296
		all = append(all, wrong{api.Array{Char: true, Shape: s, Data: data}, api.ErrDomain})
	}
	return all
}

// MA1: what is no matrix, of all five, with nothing else told; also ahead of a k
// that is below 0.
func TestWhatIsNoMatrixIsRefused(t *testing.T) {
	for _, w := range wrongArrays() {
		d, err := Det(w.a)
		if d != 0 || plain.Told(err) != w.want {
			t.Errorf("Det(%v): got %d, %v, want 0, %v", w.a, d, err, w.want)
		}
		c, err := Characteristic(w.a)
		if len(c) != 0 || plain.Told(err) != w.want {
			t.Errorf("Characteristic(%v): got %v, %v, want nothing, %v", w.a, c, err, w.want)
		}
		for k, call := range []func(api.Array) (api.Array, error){
			Adjugate,
			Inverse,
			func(a api.Array) (api.Array, error) { return Power(a, 0) },
			func(a api.Array) (api.Array, error) { return Power(a, 1) },
			func(a api.Array) (api.Array, error) { return Power(a, -1) },
			func(a api.Array) (api.Array, error) { return Power(a, api.Least) },
		} {
			got, err := call(w.a)
			if !same(got, api.Array{}) || plain.Told(err) != w.want {
				t.Errorf("call %d of %v: got %v, %v, want nothing, %v", k, w.a, got, err, w.want)
			}
		}
	}
}

// spoil writes over all memory that a list hands out.
func spoil(list []int) {
	list = list[:cap(list)]
	for i := range list {
		list[i] = -9
	}
}

// P2, P4: what is handed in stays as it is, behind its length too, and what comes
// out is fresh memory.
func TestListsAreNeitherWrittenNorShared(t *testing.T) {
	shapeWas, dataWas := []int{0, 0, 2, 2, 1, 1, -8}, []int{2, 1, 1, 1, -9}
	shapeBack, dataBack := slices.Clone(shapeWas), slices.Clone(dataWas)
	for _, a := range []api.Array{
		{Shape: shapeBack[:2], Data: dataBack[:0]},
		{Shape: shapeBack[2:4], Data: dataBack[:4]},
		{Shape: shapeBack[4:6], Data: dataBack[1:2]},
	} {
		for k, call := range []func() (api.Array, error){
			func() (api.Array, error) { return Adjugate(a) },
			func() (api.Array, error) { return Inverse(a) },
			func() (api.Array, error) { return Power(a, 0) },
			func() (api.Array, error) { return Power(a, 1) },
			func() (api.Array, error) { return Power(a, 5) },
			func() (api.Array, error) {
				c, err := Characteristic(a)
				return api.Array{Data: c}, err
			},
		} {
			first, err := call()
			if err != nil {
				t.Fatal(k, err)
			}
			kept := nums(slices.Clone(first.Shape), slices.Clone(first.Data)...)
			spoil(first.Shape)
			if !slices.Equal(first.Data, kept.Data) {
				t.Errorf("call %d: its two lists share memory", k)
			}
			spoil(first.Data)
			again, err := call()
			wantArray(t, again, err, kept)
		}
		if _, err := Det(a); err != nil {
			t.Fatal(err)
		}
	}
	if !slices.Equal(shapeBack, shapeWas) || !slices.Equal(dataBack, dataWas) {
		t.Errorf("written into: %v, %v", shapeBack, dataBack)
	}
}

// MA2, MA4, MA5: what is told is itself a matrix that Check finds right.
func TestWhatIsToldIsRight(t *testing.T) {
	for _, a := range matrices() {
		for _, call := range []func(api.Array) (api.Array, error){
			Adjugate,
			Inverse,
			func(a api.Array) (api.Array, error) { return Power(a, 3) },
		} {
			told, err := call(a)
			if err == nil && (arr.Check(told) != nil || !slices.Equal(told.Shape, a.Shape)) {
				t.Errorf("of %v: got %v", a, told)
			}
		}
	}
}
