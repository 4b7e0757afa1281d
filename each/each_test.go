package each

import (
	"math"
	"slices"
	"testing"

	"ravelin/api"
	"ravelin/arr"
	"ravelin/cell"
	"ravelin/plain"
)

// nums and chars are arrays, written short.
func nums(s []int, data ...int) api.Array { return api.Array{Shape: s, Data: data} }

func chars(s []int, data ...int) api.Array { return api.Array{Char: true, Shape: s, Data: data} }

// upTo are the numbers from 0 to below n.
func upTo(n int) []int {
	var all []int
	for i := range n {
		all = append(all, i)
	}
	return all
}

func same(a, b api.Array) bool {
	return a.Char == b.Char && slices.Equal(a.Shape, b.Shape) && slices.Equal(a.Data, b.Data)
}

func brief(a api.Array) (bool, []int, []int) {
	return a.Char, a.Shape, a.Data[:min(len(a.Data), 20)]
}

// wantArray holds what is told against what should be.
func wantArray(t *testing.T, got api.Array, err error, want api.Array) {
	t.Helper()
	if !same(got, want) || err != nil {
		gc, gs, gd := brief(got)
		wc, ws, wd := brief(want)
		t.Errorf("got %v %v %v, %v, want %v %v %v", gc, gs, gd, err, wc, ws, wd)
	}
}

// wantError holds what is told with an error against what should be.
func wantError(t *testing.T, got api.Array, err error, want api.Errno) {
	t.Helper()
	if !same(got, api.Array{}) || plain.Told(err) != want {
		c, s, d := brief(got)
		t.Errorf("got %v %v %v, %v, want nothing, %v", c, s, d, err, want)
	}
}

// five are the functions of One, and sixteen those of Two.
func five() []api.Fn { return []api.Fn{api.Add, api.Sub, api.Mul, api.Res, api.Not} }

func sixteen() []api.Fn {
	return []api.Fn{
		api.Add, api.Sub, api.Mul, api.Div, api.Res, api.Max, api.Min, api.Eq,
		api.Ne, api.Lt, api.Le, api.Ge, api.Gt, api.And, api.Or, api.Pow,
	}
}

// without are functions, and numbers of none, that are not in a list.
func without(list []api.Fn) []api.Fn {
	rest := []api.Fn{math.MinInt, math.MaxInt}
	for f := api.Fn(-3); f <= api.Slope+3; f++ {
		if !slices.Contains(list, f) {
			rest = append(rest, f)
		}
	}
	return rest
}

// wrong is an array with a fault, and what Check tells of it.
type wrong struct {
	a    api.Array
	want api.Errno
}

func wrongArrays() []wrong {
	m := api.MaxCells
	return []wrong{
		{nums([]int{1, 1, 1, 1, 1, 1, 1}, 5), api.ErrRank},
		{chars([]int{1, 1, 1, 1, 1, 1, -1}, -5), api.ErrRank},
		{nums([]int{-1}), api.ErrLength},
		{nums([]int{m + 1}, upTo(m+1)...), api.ErrFull},
		{chars([]int{m, 2}, -5), api.ErrFull},
		{api.Array{}, api.ErrLength},
		{chars(nil), api.ErrLength},
		{nums(nil, 1, 2), api.ErrLength},
		{nums([]int{2}, 1), api.ErrLength},
		{nums([]int{2}, 1, 2, 3), api.ErrLength},
		{chars([]int{1}, 55296), api.ErrDomain},
		{chars(nil, -1), api.ErrDomain},
	}
}

// EA1: each cell by its function.
func TestOneTells(t *testing.T) {
	for _, c := range []struct {
		f       api.Fn
		a, want api.Array
	}{
		{api.Add, nums([]int{3}, 3, -1, 0), nums([]int{3}, 3, -1, 0)},
		{api.Sub, nums([]int{2}, 1, -2), nums([]int{2}, -1, 2)},
		{api.Sub, nums([]int{1}, api.Least), nums([]int{1}, api.Least)},
		{api.Mul, nums([]int{2, 2}, -9, 0, 9, api.Least), nums([]int{2, 2}, -1, 0, 1, -1)},
		{api.Res, nums([]int{1, 3}, -9, 0, 9), nums([]int{1, 3}, 9, 0, 9)},
		{api.Not, nums([]int{2, 1}, 0, 1), nums([]int{2, 1}, 1, 0)},
		{api.Sub, nums(nil, 7), nums(nil, -7)},
		{api.Not, nums([]int{}, 0), nums(nil, 1)},
		{api.Not, nums([]int{0}), nums([]int{0})},
		{api.Sub, nums([]int{3, 0, 2}), nums([]int{3, 0, 2})},
		{api.Mul, nums([]int{1, 1, 1, 1, 1, 1}, -5), nums([]int{1, 1, 1, 1, 1, 1}, -1)},
	} {
		got, err := One(c.f, c.a)
		wantArray(t, got, err, c.want)
	}
}

// EA1: at each place stands what One of chapter 2 tells of the cell there.
func TestOneIsCellByCell(t *testing.T) {
	data := upTo(api.MaxCells)
	for i := range data {
		data[i] = (i - 2000) * 1234567890123457
	}
	for _, f := range []api.Fn{api.Add, api.Sub, api.Mul, api.Res} {
		for _, s := range [][]int{{4096}, {64, 64}, {4, 4, 4, 4, 4, 4}} {
			want := make([]int, len(data))
			for i, x := range data {
				want[i], _ = cell.One(f, x)
			}
			got, err := One(f, nums(s, data...))
			wantArray(t, got, err, nums(s, want...))
		}
	}
}

// EA1: what is none of the five is told ahead of what Check tells.
func TestOneRefusesFunctions(t *testing.T) {
	for _, f := range without(five()) {
		for _, a := range []api.Array{nums([]int{2}, 1, 2), nums([]int{0}), chars(nil, 97)} {
			got, err := One(f, a)
			wantError(t, got, err, api.ErrSyntax)
		}
		for _, w := range wrongArrays() {
			got, err := One(f, w.a)
			wantError(t, got, err, api.ErrSyntax)
		}
	}
}

// EA1: Check's errors, characters, and cells that have no value.
func TestOneRefusesArrays(t *testing.T) {
	for _, f := range five() {
		for _, w := range wrongArrays() {
			got, err := One(f, w.a)
			wantError(t, got, err, w.want)
		}
		for _, a := range []api.Array{
			chars(nil, 0), chars([]int{1}, 97), chars([]int{2}, 0, 1), chars([]int{0}), chars([]int{2, 0}),
		} {
			got, err := One(f, a)
			wantError(t, got, err, api.ErrDomain)
		}
	}
	for _, a := range []api.Array{
		nums(nil, 2), nums([]int{3}, 2, 0, 1), nums([]int{3}, 0, -1, 1), nums([]int{2, 2}, 0, 1, 1, api.Least),
	} {
		got, err := One(api.Not, a)
		wantError(t, got, err, api.ErrDomain)
	}
}

// EA2: cells at the same place go together.
func TestTwoTells(t *testing.T) {
	for _, c := range []struct {
		f          api.Fn
		a, b, want api.Array
	}{
		{api.Add, nums([]int{2}, 1, 2), nums([]int{2}, 10, 20), nums([]int{2}, 11, 22)},
		{api.Sub, nums([]int{2, 2}, 1, 2, 3, 4), nums([]int{2, 2}, 4, 3, 2, 1), nums([]int{2, 2}, -3, -1, 1, 3)},
		{api.Res, nums([]int{3}, 3, 3, 0), nums([]int{3}, 7, -7, 9), nums([]int{3}, 1, 2, 9)},
		{api.Div, nums([]int{2}, 7, -7), nums([]int{2}, 2, 2), nums([]int{2}, 3, -4)},
		{api.Pow, nums([]int{2}, 2, 0), nums([]int{2}, 10, 0), nums([]int{2}, 1024, 1)},
		{api.Eq, nums([]int{2}, 1, 2), nums([]int{2}, 1, 3), nums([]int{2}, 1, 0)},
		{api.Ne, nums([]int{2}, 1, 2), nums([]int{2}, 1, 3), nums([]int{2}, 0, 1)},
		{api.Mul, nums([]int{0}), nums([]int{0}), nums([]int{0})},
		{api.Div, nums([]int{2, 0}), nums([]int{2, 0}), nums([]int{2, 0})},
		{api.Max, nums([]int{1}, 4), nums([]int{1}, 5), nums([]int{1}, 5)},
	} {
		got, err := Two(c.f, c.a, c.b)
		wantArray(t, got, err, c.want)
	}
}

// EA2: one without axes stands at each place of the other one.
func TestTwoSpreadsWhatHasNoAxes(t *testing.T) {
	for _, c := range []struct {
		f          api.Fn
		a, b, want api.Array
	}{
		{api.Sub, nums([]int{2}, 5, 7), nums(nil, 1), nums([]int{2}, 4, 6)},
		{api.Sub, nums(nil, 1), nums([]int{2}, 5, 7), nums([]int{2}, -4, -6)},
		{api.Sub, nums([]int{}, 1), nums([]int{2, 1}, 5, 7), nums([]int{2, 1}, -4, -6)},
		{api.Sub, nums(nil, 1), nums([]int{}, 5), nums(nil, -4)},
		{api.Sub, nums(nil, 1), nums([]int{1}, 5), nums([]int{1}, -4)},
		{api.Sub, nums([]int{1, 1}, 1), nums(nil, 5), nums([]int{1, 1}, -4)},
		{api.Div, nums([]int{0}), nums(nil, 0), nums([]int{0})},
		{api.Pow, nums(nil, 2), nums([]int{3, 0}), nums([]int{3, 0})},
		{api.Eq, chars(nil, 98), chars([]int{3}, 97, 98, 99), nums([]int{3}, 0, 1, 0)},
		{api.Ne, chars([]int{3}, 97, 98, 99), chars(nil, 98), nums([]int{3}, 1, 0, 1)},
	} {
		got, err := Two(c.f, c.a, c.b)
		wantArray(t, got, err, c.want)
	}
}

// EA2: at each place stands what Two of chapter 2 tells of the cells there.
func TestTwoIsCellByCell(t *testing.T) {
	left, right := upTo(api.MaxCells), upTo(api.MaxCells)
	for i := range left {
		left[i] = (i - 2000) * 1234567890123457
		right[i] = i*7919%257 + 1
	}
	for _, f := range sixteen() {
		both, spreadLeft, spreadRight := make([]int, len(left)), make([]int, len(left)), make([]int, len(left))
		for i := range left {
			both[i], _ = cell.Two(f, left[i], right[i])
			spreadLeft[i], _ = cell.Two(f, -41, right[i])
			spreadRight[i], _ = cell.Two(f, left[i], 3)
		}
		for _, s := range [][]int{{4096}, {64, 64}, {4, 4, 4, 4, 4, 4}} {
			got, err := Two(f, nums(s, left...), nums(s, right...))
			wantArray(t, got, err, nums(s, both...))
			got, err = Two(f, nums(nil, -41), nums(s, right...))
			wantArray(t, got, err, nums(s, spreadLeft...))
			got, err = Two(f, nums(s, left...), nums(nil, 3))
			wantArray(t, got, err, nums(s, spreadRight...))
		}
	}
}

// EA2: characters are equal as their numbers are, but to no number; what is
// told are numbers.
func TestTwoComparesCharacters(t *testing.T) {
	for _, c := range []struct{ a, b, equal, other api.Array }{
		{chars([]int{2}, 97, 98), chars([]int{2}, 97, 99), nums([]int{2}, 1, 0), nums([]int{2}, 0, 1)},
		{chars([]int{2}, 97, 98), nums([]int{2}, 97, 98), nums([]int{2}, 0, 0), nums([]int{2}, 1, 1)},
		{nums([]int{2}, 97, 98), chars([]int{2}, 97, 99), nums([]int{2}, 0, 0), nums([]int{2}, 1, 1)},
		{nums([]int{2}, 0, 1), chars([]int{2}, 1, 0), nums([]int{2}, 0, 0), nums([]int{2}, 1, 1)},
		{chars(nil, 97), nums([]int{2}, 97, -1), nums([]int{2}, 0, 0), nums([]int{2}, 1, 1)},
		{nums([]int{1, 1}, 0), chars(nil, 0), nums([]int{1, 1}, 0), nums([]int{1, 1}, 1)},
		{chars(nil, 97), nums(nil, 97), nums(nil, 0), nums(nil, 1)},
		{chars(nil, 97), chars(nil, 97), nums(nil, 1), nums(nil, 0)},
		{chars([]int{0}), nums([]int{0}), nums([]int{0}), nums([]int{0})},
		{chars([]int{0}), chars([]int{0}), nums([]int{0}), nums([]int{0})},
		{chars([]int{2, 0}), nums(nil, 5), nums([]int{2, 0}), nums([]int{2, 0})},
	} {
		got, err := Two(api.Eq, c.a, c.b)
		wantArray(t, got, err, c.equal)
		got, err = Two(api.Ne, c.a, c.b)
		wantArray(t, got, err, c.other)
	}
}

// EA2: what is none of the sixteen is told ahead of all else.
func TestTwoRefusesFunctions(t *testing.T) {
	right := nums([]int{2}, 1, 2)
	for _, f := range without(sixteen()) {
		for _, b := range []api.Array{right, nums([]int{3}, 1, 2, 3), nums([]int{1, 2}, 1, 2), chars(nil, 97)} {
			got, err := Two(f, right, b)
			wantError(t, got, err, api.ErrSyntax)
		}
		for _, w := range wrongArrays() {
			got, err := Two(f, w.a, right)
			wantError(t, got, err, api.ErrSyntax)
			got, err = Two(f, right, w.a)
			wantError(t, got, err, api.ErrSyntax)
		}
	}
}

// EA2: both are checked, the first one first, ahead of how they go together.
func TestTwoRefusesArrays(t *testing.T) {
	rights := []api.Array{nums(nil, 1), nums([]int{1, 2}, 1, 2), chars([]int{3}, 97, 98, 99), nums([]int{0})}
	for _, f := range sixteen() {
		for _, w := range wrongArrays() {
			for _, right := range rights {
				got, err := Two(f, w.a, right)
				wantError(t, got, err, w.want)
				got, err = Two(f, right, w.a)
				wantError(t, got, err, w.want)
			}
			for _, v := range wrongArrays() {
				got, err := Two(f, w.a, v.a)
				wantError(t, got, err, w.want)
			}
		}
	}
}

// EA2: where both have axes, they are as many and as long; that is told ahead
// of characters and of cells that have no value.
func TestTwoRefusesShapes(t *testing.T) {
	for _, c := range []struct {
		a, b []int
		want api.Errno
	}{
		{[]int{2}, []int{1, 2}, api.ErrRank},
		{[]int{1}, []int{1, 1}, api.ErrRank},
		{[]int{3}, []int{1, 2}, api.ErrRank},
		{[]int{0}, []int{0, 0}, api.ErrRank},
		{[]int{1, 1, 1, 1, 1}, []int{1, 1, 1, 1, 1, 1}, api.ErrRank},
		{[]int{2}, []int{3}, api.ErrLength},
		{[]int{1}, []int{3}, api.ErrLength},
		{[]int{0}, []int{1}, api.ErrLength},
		{[]int{2, 3}, []int{3, 2}, api.ErrLength},
		{[]int{2, 3}, []int{2, 2}, api.ErrLength},
		{[]int{0, 2}, []int{2, 0}, api.ErrLength},
		{[]int{1, 3}, []int{3, 3}, api.ErrLength},
	} {
		a, _ := arr.Reshape(c.a, nums(nil, 0))
		b, _ := arr.Reshape(c.b, nums(nil, 0))
		for _, f := range sixteen() {
			for _, char := range []bool{false, true} {
				a.Char = char
				got, err := Two(f, a, b)
				wantError(t, got, err, c.want)
				got, err = Two(f, b, a)
				wantError(t, got, err, c.want)
			}
		}
	}
}

// EA2: of characters all but Eq and Ne have no value, even where there are no
// cells.
func TestTwoRefusesCharacters(t *testing.T) {
	for _, f := range sixteen() {
		if f == api.Eq || f == api.Ne {
			continue
		}
		for _, p := range [][2]api.Array{
			{chars([]int{2}, 97, 98), chars([]int{2}, 97, 98)},
			{chars([]int{2}, 97, 98), nums([]int{2}, 1, 2)},
			{nums([]int{2}, 1, 2), chars([]int{2}, 97, 98)},
			{chars(nil, 1), nums([]int{2}, 1, 2)},
			{nums(nil, 1), chars(nil, 1)},
			{chars([]int{0}), nums([]int{0})},
			{nums([]int{0}), chars(nil, 97)},
			{nums(nil, 1), chars([]int{3, 0})},
		} {
			got, err := Two(f, p[0], p[1])
			wantError(t, got, err, api.ErrDomain)
		}
	}
}

// EA2: cells that have no value, wherever they stand.
func TestTwoRefusesCells(t *testing.T) {
	for _, c := range []struct {
		f    api.Fn
		a, b api.Array
	}{
		{api.Div, nums([]int{2}, 1, 2), nums([]int{2}, 1, 0)},
		{api.Div, nums([]int{2}, 1, 2), nums([]int{2}, 0, 1)},
		{api.Div, nums([]int{2}, 1, 2), nums(nil, 0)},
		{api.Div, nums(nil, 0), nums(nil, 0)},
		{api.Div, nums(nil, 5), nums([]int{1, 3}, 1, 1, 0)},
		{api.Pow, nums([]int{2}, 1, 1), nums([]int{2}, 1, -1)},
		{api.Pow, nums(nil, 1), nums([]int{2}, api.Least, 0)},
		{api.Pow, nums([]int{2, 1}, 1, 1), nums(nil, -1)},
	} {
		got, err := Two(c.f, c.a, c.b)
		wantError(t, got, err, api.ErrDomain)
	}
}

// EA2: two cells by Pairing are as Two of arrays without axes tells them.
func TestPairingIsTwoOfTwoCells(t *testing.T) {
	kinds := []bool{false, true}
	for _, f := range sixteen() {
		for _, leftChar := range kinds {
			for _, rightChar := range kinds {
				by, pairErr := Pairing(f, leftChar, rightChar)
				for _, p := range [][2]int{{0, 0}, {0, 1}, {97, 97}, {98, 3}} {
					want, wantErr := Two(f,
						api.Array{Char: leftChar, Data: p[:1]}, api.Array{Char: rightChar, Data: p[1:]})
					if by == nil {
						wantError(t, want, pairErr, plain.Told(wantErr))
						continue
					}
					got, err := by(p[0], p[1])
					if plain.Told(err) != plain.Told(wantErr) {
						t.Errorf("%v of %v: got %v, want %v", f, p, err, wantErr)
					}
					if err == nil {
						wantArray(t, want, pairErr, nums(nil, got))
					}
				}
			}
		}
	}
}

// spoil writes over all memory that an array hands out.
func spoil(a api.Array) {
	for _, list := range [][]int{a.Shape[:cap(a.Shape)], a.Data[:cap(a.Data)]} {
		for i := range list {
			list[i] = -9
		}
	}
}

// P2, P4: what is handed in stays as it is, behind its length too, and what
// comes out is fresh memory.
func TestListsAreNeitherWrittenNorShared(t *testing.T) {
	shapeBack, dataBack := []int{2, 2, -8}, []int{3, 1, 2, 0, -9}
	a := nums(shapeBack[:2], dataBack[:4]...)
	single := nums(shapeBack[:0], dataBack[:1]...)
	none := nums(dataBack[3:4], dataBack[:0]...)
	for k, call := range []func() (api.Array, error){
		func() (api.Array, error) { return One(api.Add, a) },
		func() (api.Array, error) { return One(api.Sub, single) },
		func() (api.Array, error) { return One(api.Not, none) },
		func() (api.Array, error) { return Two(api.Add, a, a) },
		func() (api.Array, error) { return Two(api.Sub, a, single) },
		func() (api.Array, error) { return Two(api.Sub, single, a) },
		func() (api.Array, error) { return Two(api.Max, single, single) },
		func() (api.Array, error) { return Two(api.Min, none, none) },
		func() (api.Array, error) { return Two(api.Div, single, none) },
	} {
		first, err := call()
		if err != nil {
			t.Fatal(err)
		}
		kept := nums(slices.Clone(first.Shape), slices.Clone(first.Data)...)
		spoil(api.Array{Shape: first.Shape})
		if !slices.Equal(first.Data, kept.Data) {
			t.Errorf("call %d: its two lists share memory", k)
		}
		spoil(first)
		again, err := call()
		wantArray(t, again, err, kept)
	}
	if !slices.Equal(shapeBack, []int{2, 2, -8}) || !slices.Equal(dataBack, []int{3, 1, 2, 0, -9}) {
		t.Errorf("written into: %v, %v", shapeBack, dataBack)
	}
}
