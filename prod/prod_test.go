package prod

import (
	"math"
	"slices"
	"testing"

	"ravelin/api"
	"ravelin/arr"
	"ravelin/cell"
	"ravelin/each"
	"ravelin/fold"
	"ravelin/plain"
	"ravelin/shape"
)

// nums and chars are arrays, written short.
func nums(s []int, data ...int) api.Array { return api.Array{Shape: s, Data: data} }

func chars(s []int, data ...int) api.Array { return api.Array{Char: true, Shape: s, Data: data} }

// list and text are arrays of numbers and of characters on one axis.
func list(data ...int) api.Array { return nums([]int{len(data)}, data...) }

func text(data ...int) api.Array { return chars([]int{len(data)}, data...) }

// upTo are the numbers from 0 to below n.
func upTo(n int) []int {
	var all []int
	for i := range n {
		all = append(all, i)
	}
	return all
}

func same(a, b api.Array) bool {
	return a.Char == b.Char && slices.Equal(a.Shape, b.Shape) && slices.Equal(a.Data, b.Data)
}

func brief(a api.Array) (bool, []int, []int) {
	return a.Char, a.Shape, a.Data[:min(len(a.Data), 20)]
}

// wantArray holds what is told against what should be.
func wantArray(t *testing.T, got api.Array, err error, want api.Array) {
	t.Helper()
	if !same(got, want) || err != nil {
		gc, gs, gd := brief(got)
		wc, ws, wd := brief(want)
		t.Errorf("got %v %v %v, %v, want %v %v %v", gc, gs, gd, err, wc, ws, wd)
	}
}

// wantError holds what is told with an error against what should be.
func wantError(t *testing.T, got api.Array, err error, want api.Errno) {
	t.Helper()
	if !same(got, api.Array{}) || plain.Told(err) != want {
		c, s, d := brief(got)
		t.Errorf("got %v %v %v, %v, want nothing, %v", c, s, d, err, want)
	}
}

// wantSame holds what is told, with its error, against what should be.
func wantSame(t *testing.T, got api.Array, err error, want api.Array, wantErr error) {
	t.Helper()
	if wantErr != nil {
		wantError(t, got, err, plain.Told(wantErr))
		return
	}
	wantArray(t, got, err, want)
}

func sixteen() []api.Fn {
	return []api.Fn{
		api.Add, api.Sub, api.Mul, api.Div, api.Res, api.Max, api.Min, api.Eq,
		api.Ne, api.Lt, api.Le, api.Ge, api.Gt, api.And, api.Or, api.Pow,
	}
}

// others are functions, and numbers of none, that are not of the sixteen.
func others() []api.Fn {
	rest := []api.Fn{math.MinInt, math.MaxInt}
	for f := api.Fn(-3); f <= api.Slope+3; f++ {
		if !slices.Contains(sixteen(), f) {
			rest = append(rest, f)
		}
	}
	return rest
}

// neutralless are the functions of the sixteen without a Neutral.
func neutralless() []api.Fn {
	return []api.Fn{api.Eq, api.Ne, api.Lt, api.Le, api.Ge, api.Gt}
}

// numeric are the functions of the sixteen that may have no characters.
func numeric() []api.Fn {
	return slices.DeleteFunc(sixteen(), func(f api.Fn) bool { return f == api.Eq || f == api.Ne })
}

// wrong is an array with a fault, and what Check tells of it.
type wrong struct {
	a    api.Array
	want api.Errno
}

func wrongArrays() []wrong {
	m := api.MaxCells
	return []wrong{
		{nums([]int{1, 1, 1, 1, 1, 1, 1}, 5), api.ErrRank},
		{chars([]int{1, 1, 1, 1, 1, 1, -1}, -5), api.ErrRank},
		{nums([]int{-1}), api.ErrLength},
		{nums([]int{m + 1}, upTo(m+1)...), api.ErrFull},
		{chars([]int{m, 2}, -5), api.ErrFull},
		{api.Array{}, api.ErrLength},
		{chars(nil), api.ErrLength},
		{nums(nil, 1, 2), api.ErrLength},
		{nums([]int{0}, 1), api.ErrLength},
		{nums([]int{2}, 1), api.ErrLength},
		{nums([]int{2}, 1, 2, 3), api.ErrLength},
		{nums([]int{2, 3}, 1, 2, 3, 4, 5), api.ErrLength},
		{chars([]int{1}, 55296), api.ErrDomain},
		{chars([]int{2, 1}, 97, 1114112), api.ErrDomain},
		{chars(nil, -1), api.ErrDomain},
	}
}

// filled is an array of that shape with what of tells of each place.
func filled(s []int, of func(place int) int) api.Array {
	count, _ := shape.Count(s)
	data := make([]int, count)
	for place := range data {
		data[place] = of(place)
	}
	return nums(s, data...)
}

func zeros(s []int) api.Array { return filled(s, func(int) int { return 0 }) }

// fillings are rules by which cells are filled: some by which all functions have
// a value, and some by which Div and Pow have none of some cells.
func fillings() []func(place int) int {
	return []func(int) int{
		func(int) int { return 1 },
		func(place int) int { return 3*place + 100 },
		func(place int) int { return place * place * 6364136223846793005 >> 5 },
		func(place int) int { return place*7%5 - 2 },
		func(place int) int { return place*11%3 + 1 },
		func(place int) int { return []int{api.Least, -1, 0, 1, api.Greatest, 2, -2}[place%7] },
	}
}

// shapes are some of each number of axes, without cells and with many.
func shapes() [][]int {
	m := api.MaxCells
	return [][]int{
		nil, {0}, {1}, {2}, {3}, {64}, {65}, {m},
		{0, 3}, {3, 0}, {0, 0}, {1, 3}, {3, 1}, {2, 3}, {3, 2}, {64, 64}, {m, 0}, {0, m},
		{2, 3, 2}, {3, 1, 3}, {3, 0, 2}, {0, 64, 64},
		{2, 1, 3, 2}, {0, m, m, 0},
		{1, 2, 1, 1, 3}, {m, m, m, m, 0}, {0, m, m, m, m},
		{3, 1, 2, 1, 2, 1}, {1, 1, 1, 1, 1, 3}, {m, m, m, m, m, 0}, {0, m, m, m, m, m},
	}
}

// foldsTo is what numbers fold to, by FO1's words.
func foldsTo(f api.Fn, cells []int) (int, error) {
	switch len(cells) {
	case 0:
		return cell.Neutral(f)
	case 1:
		return cells[0], nil
	}
	rest, err := foldsTo(f, cells[1:])
	if err != nil {
		return 0, err
	}
	return cell.Two(f, cells[0], rest)
}

// cellAt is the cell of a at indices, by the words of chapter 1.
func cellAt(a api.Array, left, right []int) int {
	place, err := shape.Place(a.Shape, slices.Concat(left, right))
	if err != nil {
		panic(err)
	}
	return a.Data[place]
}

// found is an array of numbers of the shape s, with what of tells of the indices
// of each place.
func found(s []int, of func(at []int) (int, error)) (api.Array, error) {
	count, err := shape.Count(s)
	if err != nil {
		return api.Array{}, err
	}
	data := make([]int, count)
	for place := range data {
		at, _ := shape.At(s, place)
		if data[place], err = of(at); err != nil {
			return api.Array{}, err
		}
	}
	return nums(s, data...), nil
}

// outer and inner are what the two calls tell of numbers, by their words.
func outer(f api.Fn, a, b api.Array) (api.Array, error) {
	s := slices.Concat(a.Shape, b.Shape)
	return found(s, func(at []int) (int, error) {
		split := len(a.Shape)
		return cell.Two(f, cellAt(a, at[:split], nil), cellAt(b, at[split:], nil))
	})
}

func inner(f, g api.Fn, a, b api.Array) (api.Array, error) {
	if len(a.Shape) == 0 || len(b.Shape) == 0 {
		return api.Array{}, api.ErrRank
	}
	split := len(a.Shape) - 1
	length := a.Shape[split]
	if length != b.Shape[0] {
		return api.Array{}, api.ErrLength
	}
	s := slices.Concat(a.Shape[:split], b.Shape[1:])
	if _, err := shape.Count(s); err != nil {
		return api.Array{}, err
	}
	if length == 0 && slices.Contains(neutralless(), f) {
		return api.Array{}, api.ErrDomain
	}
	return found(s, func(at []int) (int, error) {
		line := make([]int, length)
		for k := range line {
			x, err := cell.Two(g, cellAt(a, at[:split], []int{k}), cellAt(b, []int{k}, at[split:]))
			if err != nil {
				return 0, err
			}
			line[k] = x
		}
		return foldsTo(f, line)
	})
}

// PR1: each cell of a with each of b, the axes of a ahead of those of b.
func TestOuterTells(t *testing.T) {
	six := nums([]int{2, 3}, 1, 2, 3, 40, 50, 60)
	for _, c := range []struct {
		f          api.Fn
		a, b, want api.Array
	}{
		{api.Sub, list(5, 7), list(1, 2), nums([]int{2, 2}, 4, 3, 6, 5)},
		{api.Sub, list(5), list(1, 2, 3), nums([]int{1, 3}, 4, 3, 2)},
		{api.Sub, list(1, 2, 3), list(5), nums([]int{3, 1}, -4, -3, -2)},
		{api.Add, list(1, 2), six, nums([]int{2, 2, 3}, 2, 3, 4, 41, 51, 61, 3, 4, 5, 42, 52, 62)},
		{api.Add, six, list(1, 2), nums([]int{2, 3, 2}, 2, 3, 3, 4, 4, 5, 41, 42, 51, 52, 61, 62)},
		{api.Sub, nums(nil, 9), nums(nil, 4), nums(nil, 5)},
		{api.Sub, nums(nil, 9), list(4, 5), list(5, 4)},
		{api.Sub, list(4, 5), nums(nil, 9), list(-5, -4)},
		{api.Div, list(7, -7), list(2, -2), nums([]int{2, 2}, 3, -4, -4, 3)},
		{api.Res, list(3, 0), list(7, -7), nums([]int{2, 2}, 1, 2, 7, -7)},
		{api.Pow, list(2, 0), list(0, 3), nums([]int{2, 2}, 1, 8, 1, 0)},
		{api.Eq, list(1, 2), list(2, 1), nums([]int{2, 2}, 0, 1, 1, 0)},
		{api.Ne, list(1, 2), list(2, 1), nums([]int{2, 2}, 1, 0, 0, 1)},
		{api.Add, list(api.Greatest), list(1), nums([]int{1, 1}, api.Least)},
		{api.Max, nums([]int{1, 1, 1}, 4), nums([]int{1, 1, 1}, 5), nums([]int{1, 1, 1, 1, 1, 1}, 5)},
		{api.Div, list(), list(0, 0), nums([]int{0, 2})},
		{api.Div, list(1, 1), list(), nums([]int{2, 0})},
		{api.Div, list(), nums(nil, 0), list()},
		{api.Pow, nums([]int{0, 3}), nums([]int{3, 0}), nums([]int{0, 3, 3, 0})},
	} {
		got, err := Outer(c.f, c.a, c.b)
		wantArray(t, got, err, c.want)
	}
}

// PR1: by its words, of each shape with each.
func TestOuterOfEachShape(t *testing.T) {
	for _, s := range shapes() {
		for _, r := range shapes() {
			for k, of := range fillings() {
				a, b := filled(s, of), filled(r, fillings()[(k+1)%len(fillings())])
				want, wantErr := outer(api.Sub, a, b)
				got, err := Outer(api.Sub, a, b)
				wantSame(t, got, err, want, wantErr)
				if len(want.Data) > 100 {
					continue
				}
				for _, f := range sixteen() {
					want, wantErr := outer(f, a, b)
					got, err := Outer(f, a, b)
					wantSame(t, got, err, want, wantErr)
				}
			}
		}
	}
}

// PR1: characters are equal as their numbers are, but to no number; what is told
// are numbers.
func TestOuterComparesCharacters(t *testing.T) {
	for _, c := range []struct{ a, b, equal, other api.Array }{
		{text(97, 98), text(98, 97), nums([]int{2, 2}, 0, 1, 1, 0), nums([]int{2, 2}, 1, 0, 0, 1)},
		{text(97), list(97, -1), nums([]int{1, 2}, 0, 0), nums([]int{1, 2}, 1, 1)},
		{list(97, 0, 1), chars(nil, 97), list(0, 0, 0), list(1, 1, 1)},
		{chars(nil, 0), nums(nil, 0), nums(nil, 0), nums(nil, 1)},
		{chars(nil, 5), chars(nil, 5), nums(nil, 1), nums(nil, 0)},
		{text(), list(1, 2), nums([]int{0, 2}), nums([]int{0, 2})},
		{list(1, 2), text(), nums([]int{2, 0}), nums([]int{2, 0})},
		{text(), text(), nums([]int{0, 0}), nums([]int{0, 0})},
	} {
		got, err := Outer(api.Eq, c.a, c.b)
		wantArray(t, got, err, c.equal)
		got, err = Outer(api.Ne, c.a, c.b)
		wantArray(t, got, err, c.other)
	}
}

// PR1: what is none of the sixteen is told ahead of Check and of all else.
func TestOuterRefusesFunctions(t *testing.T) {
	m := api.MaxCells
	arrays := []api.Array{list(1, 2), list(), nums(nil, 1), text(97), zeros([]int{m}), nums([]int{0, m, m, m})}
	for _, w := range wrongArrays() {
		arrays = append(arrays, w.a)
	}
	for _, f := range others() {
		for _, a := range arrays {
			for _, b := range arrays {
				got, err := Outer(f, a, b)
				wantError(t, got, err, api.ErrSyntax)
			}
		}
	}
}

// PR1: both are checked, the first one first, ahead of the shape they have
// together and of characters.
func TestOuterRefusesArrays(t *testing.T) {
	rights := []api.Array{nums(nil, 1), list(), text(97, 98), zeros([]int{api.MaxCells}), zeros([]int{1, 1, 1, 1, 1, 1})}
	for _, f := range sixteen() {
		for _, w := range wrongArrays() {
			for _, right := range rights {
				got, err := Outer(f, w.a, right)
				wantError(t, got, err, w.want)
				got, err = Outer(f, right, w.a)
				wantError(t, got, err, w.want)
			}
			for _, v := range wrongArrays() {
				got, err := Outer(f, w.a, v.a)
				wantError(t, got, err, w.want)
			}
		}
	}
}

// PR1: Count's error of the shape, ahead of characters and of cells that have no
// value.
func TestOuterRefusesShapes(t *testing.T) {
	m := api.MaxCells
	for _, c := range []struct {
		a, b []int
		want api.Errno
	}{
		{[]int{1, 1, 1, 1}, []int{1, 1, 1}, api.ErrRank},
		{[]int{1}, []int{1, 1, 1, 1, 1, 1}, api.ErrRank},
		{[]int{1, 1, 1, 1, 1, 1}, []int{1, 1, 1, 1, 1, 1}, api.ErrRank},
		{[]int{0, 2, 2, 2}, []int{0, 0, 0}, api.ErrRank},
		{[]int{m, 1, 1, 1}, []int{m, 1, 1}, api.ErrRank},
		{[]int{65}, []int{64}, api.ErrFull},
		{[]int{64}, []int{65}, api.ErrFull},
		{[]int{m}, []int{2}, api.ErrFull},
		{[]int{m}, []int{m}, api.ErrFull},
		{[]int{16, 16}, []int{4, 5}, api.ErrFull},
		{[]int{m, 1, 1}, []int{1, 1, m}, api.ErrFull},
	} {
		for _, f := range sixteen() {
			for _, char := range [][2]bool{{false, false}, {true, false}, {false, true}, {true, true}} {
				a, b := zeros(c.a), zeros(c.b)
				a.Char, b.Char = char[0], char[1]
				got, err := Outer(f, a, b)
				wantError(t, got, err, c.want)
				got, err = Outer(f, b, a)
				wantError(t, got, err, c.want)
			}
		}
	}
}

// PR1: of characters all but Eq and Ne have no value, even where there are no
// cells.
func TestOuterRefusesCharacters(t *testing.T) {
	for _, f := range numeric() {
		for _, p := range [][2]api.Array{
			{text(97, 98), text(97, 98)},
			{text(97, 98), list(1, 2, 3)},
			{list(1, 2, 3), text(97, 98)},
			{chars(nil, 1), nums(nil, 1)},
			{nums(nil, 1), chars(nil, 1)},
			{text(), list(1)},
			{list(), text(97)},
			{list(1), text()},
			{text(), text()},
		} {
			got, err := Outer(f, p[0], p[1])
			wantError(t, got, err, api.ErrDomain)
		}
	}
}

// PR1: Two tells it, of any two cells.
func TestOuterRefusesCells(t *testing.T) {
	for _, c := range []struct {
		f    api.Fn
		a, b api.Array
	}{
		{api.Div, list(1, 2), list(1, 0)},
		{api.Div, list(1, 2), list(0, 1)},
		{api.Div, nums(nil, 0), nums(nil, 0)},
		{api.Div, nums([]int{2, 1}, 5, 6), nums([]int{1, 3}, 1, 1, 0)},
		{api.Pow, list(1, 1), list(1, -1)},
		{api.Pow, list(0, 1), nums(nil, api.Least)},
	} {
		got, err := Outer(c.f, c.a, c.b)
		wantError(t, got, err, api.ErrDomain)
	}
	got, err := Outer(api.Div, list(0, 0), list(1, 2))
	wantArray(t, got, err, zeros([]int{2, 2}))
}

// PR1: as many cells as there can be, on one axis and on six.
func TestOuterOfManyCells(t *testing.T) {
	m := api.MaxCells
	for _, p := range [][2][]int{
		{nil, {m}}, {{m}, nil}, {{64}, {64}}, {{4, 4, 4}, {4, 4, 4}}, {{1, 1, 1, 1, 1}, {m}}, {{m}, {1, 1, 1, 1, 1}},
		{{0, m, m}, {m, m, 0}}, {{m, m, 0, m, m}, {m}}, {{0}, {m}}, {{m}, {0}},
	} {
		a, b := filled(p[0], fillings()[2]), filled(p[1], fillings()[1])
		for _, f := range sixteen() {
			want, wantErr := outer(f, a, b)
			got, err := Outer(f, a, b)
			wantSame(t, got, err, want, wantErr)
		}
	}
}

// PR2: the cells along the last axis of a with those along the first one of b.
func TestInnerTells(t *testing.T) {
	six := nums([]int{2, 3}, 1, 2, 3, 4, 5, 6)
	tall := nums([]int{3, 2}, 10, 20, 30, 40, 50, 60)
	for _, c := range []struct {
		f, g       api.Fn
		a, b, want api.Array
	}{
		{api.Add, api.Mul, list(1, 2, 3), list(4, 5, 6), nums(nil, 32)},
		{api.Add, api.Mul, six, tall, nums([]int{2, 2}, 220, 280, 490, 640)},
		{api.Add, api.Mul, tall, six, nums([]int{3, 3}, 90, 120, 150, 190, 260, 330, 290, 400, 510)},
		{api.Add, api.Mul, six, list(1, 10, 100), list(321, 654)},
		{api.Add, api.Mul, list(1, 10), six, list(41, 52, 63)},
		{api.Sub, api.Add, list(1, 2, 3), list(10, 20, 30), nums(nil, 22)},
		{api.Add, api.Sub, list(1, 2, 3), list(10, 20, 30), nums(nil, -54)},
		{api.Max, api.Sub, six, tall, nums([]int{2, 2}, -9, -19, -6, -16)},
		{api.Min, api.Add, six, tall, nums([]int{2, 2}, 11, 21, 14, 24)},
		{api.Res, api.Sub, list(10, 10), list(3, -16), nums(nil, 5)},
		{api.Pow, api.Add, list(1, 1, 1), list(1, 2, 1), nums(nil, 512)},
		{api.Div, api.Mul, list(50, 7, 1), list(2, 1, 2), nums(nil, 33)},
		{api.And, api.Eq, list(1, 2, 3), list(1, 2, 3), nums(nil, 1)},
		{api.Or, api.Ne, list(1, 2, 3), list(1, 2, 3), nums(nil, 0)},
		{api.Lt, api.Sub, list(5, 7, 9), list(5, 5, 5), nums(nil, 1)},
		{api.Eq, api.Add, list(3), list(4), nums(nil, 7)},
		{api.Eq, api.Add, nums([]int{2, 1}, 3, 4), nums([]int{1, 2}, 10, 20), nums([]int{2, 2}, 13, 23, 14, 24)},
		{api.Add, api.Mul, list(1<<62, 1), list(2, 0), nums(nil, api.Least)},
		{api.Add, api.Mul, nums([]int{1, 1}, 6), nums([]int{1, 1, 1, 1, 1, 1}, 7), nums([]int{1, 1, 1, 1, 1, 1}, 42)},
		{
			api.Add, api.Mul, nums([]int{2, 1, 2}, 1, 2, 3, 4), nums([]int{2, 2, 1}, 1, 10, 100, 1000),
			nums([]int{2, 1, 2, 1}, 201, 2010, 403, 4030),
		},
	} {
		got, err := Inner(c.f, c.g, c.a, c.b)
		wantArray(t, got, err, c.want)
	}
}

// PR2: by its words, of each shape with each.
func TestInnerOfEachShape(t *testing.T) {
	for _, s := range shapes() {
		for _, r := range shapes() {
			for k, of := range fillings() {
				a, b := filled(s, of), filled(r, fillings()[(k+1)%len(fillings())])
				for n, f := range sixteen() {
					// Not all two functions of each shape: that would take too long.
					for _, g := range []api.Fn{api.Mul, sixteen()[(n+k)%16], sixteen()[(n+len(s)*5+len(r))%16]} {
						if len(a.Data)*len(b.Data) > 10000 && f != api.Sub {
							continue
						}
						want, wantErr := inner(f, g, a, b)
						got, err := Inner(f, g, a, b)
						wantSame(t, got, err, want, wantErr)
					}
				}
			}
		}
	}
}

// PR2: by its words, of each two functions.
func TestInnerOfEachFunction(t *testing.T) {
	for k, of := range fillings() {
		a, b := filled([]int{2, 2, 3}, of), filled([]int{3, 4}, fillings()[(k+3)%len(fillings())])
		for _, f := range sixteen() {
			for _, g := range sixteen() {
				want, wantErr := inner(f, g, a, b)
				got, err := Inner(f, g, a, b)
				wantSame(t, got, err, want, wantErr)
			}
		}
	}
}

// PR2: of numbers on one axis each, it is what Two of chapter 4 tells, reduced.
func TestInnerIsReduceOfTwo(t *testing.T) {
	for k, of := range fillings() {
		a, b := filled([]int{5}, of), filled([]int{5}, fillings()[(k+2)%len(fillings())])
		for _, f := range sixteen() {
			for _, g := range sixteen() {
				want, wantErr := each.Two(g, a, b)
				if wantErr == nil {
					want, wantErr = fold.Reduce(f, 0, want)
				}
				got, err := Inner(f, g, a, b)
				wantSame(t, got, err, want, wantErr)
			}
		}
	}
}

// PR2: g of characters, fold by any f; a character and a number are not equal.
func TestInnerComparesCharacters(t *testing.T) {
	words := chars([]int{2, 3}, 97, 98, 99, 97, 97, 97)
	for _, c := range []struct {
		f, g       api.Fn
		a, b, want api.Array
	}{
		{api.Add, api.Eq, text(97, 98), text(97, 97), nums(nil, 1)},
		{api.Add, api.Ne, text(97, 98), text(97, 97), nums(nil, 1)},
		{api.Add, api.Eq, words, text(97, 97, 99), list(2, 2)},
		{api.And, api.Eq, words, text(97, 98, 99), list(1, 0)},
		{api.Or, api.Ne, words, text(97, 98, 99), list(0, 1)},
		{api.Add, api.Eq, words, list(97, 98, 99), list(0, 0)},
		{api.Add, api.Ne, words, list(97, 98, 99), list(3, 3)},
		{api.Add, api.Eq, list(97, 0), text(97, 0), nums(nil, 0)},
		{api.Mul, api.Ne, list(97, 0), text(97, 0), nums(nil, 1)},
		{api.Sub, api.Ne, text(0), list(0), nums(nil, 1)},
		{api.Max, api.Eq, text(), list(), nums(nil, api.Least)},
		{api.Mul, api.Ne, text(), text(), nums(nil, 1)},
		{api.Add, api.Ne, chars([]int{0, 3}), text(1, 2, 3), list()},
	} {
		got, err := Inner(c.f, c.g, c.a, c.b)
		wantArray(t, got, err, c.want)
	}
}

// PR2: without cells on the two axes, Neutral of f stands at each place.
func TestInnerOfNoneIsNeutral(t *testing.T) {
	m := api.MaxCells
	for f, e := range map[api.Fn]int{
		api.Add: 0, api.Sub: 0, api.Res: 0, api.Or: 0,
		api.Mul: 1, api.Div: 1, api.Pow: 1,
		api.Max: api.Least, api.Min: api.Greatest, api.And: -1,
	} {
		for _, c := range []struct{ a, b, want []int }{
			{[]int{0}, []int{0}, nil},
			{[]int{2, 0}, []int{0}, []int{2}},
			{[]int{0}, []int{0, 3}, []int{3}},
			{[]int{2, 0}, []int{0, 3}, []int{2, 3}},
			{[]int{64, 0}, []int{0, 64}, []int{64, 64}},
			{[]int{0}, []int{0, m}, []int{m}},
			{[]int{0, 0}, []int{0, 3}, []int{0, 3}},
			{[]int{3, 0}, []int{0, 0}, []int{3, 0}},
			{[]int{0, 0}, []int{0, m, m, m, m, m}, []int{0, m, m, m, m, m}},
			{[]int{m, m, m, m, m, 0}, []int{0, 0}, []int{m, m, m, m, m, 0}},
		} {
			for _, g := range sixteen() {
				got, err := Inner(f, g, nums(c.a), nums(c.b))
				wantArray(t, got, err, filled(c.want, func(int) int { return e }))
			}
		}
	}
}

// PR2: the two axes have no cells, and f no Neutral; whether places are left or
// not. Other axes without cells leave nothing to fold, and nothing wrong.
func TestInnerRefusesNone(t *testing.T) {
	m := api.MaxCells
	for _, f := range neutralless() {
		for _, g := range sixteen() {
			for _, c := range [][2][]int{
				{{0}, {0}}, {{2, 0}, {0}}, {{0}, {0, 3}}, {{2, 0}, {0, 3}},
				{{0, 0}, {0, 3}}, {{3, 0}, {0, 0}}, {{0, 0}, {0, m, m, m, m, m}},
			} {
				got, err := Inner(f, g, nums(c[0]), nums(c[1]))
				wantError(t, got, err, api.ErrDomain)
			}
			got, err := Inner(f, g, nums([]int{0, 3}), list(1, 2, 3))
			wantArray(t, got, err, list())
			got, err = Inner(f, g, list(1, 2, 3), nums([]int{3, 0}))
			wantArray(t, got, err, list())
			got, err = Inner(f, g, nums([]int{0, 3}), nums([]int{3, 2}, 0, 0, 0, 0, 0, 0))
			wantArray(t, got, err, nums([]int{0, 2}))
		}
	}
}

// PR2: f or g is none of the sixteen: told ahead of Check and of all else.
func TestInnerRefusesFunctions(t *testing.T) {
	m := api.MaxCells
	arrays := []api.Array{list(1, 2), list(), nums(nil, 1), text(97), nums([]int{0, m, m}), nums([]int{m, m, 0})}
	for _, w := range wrongArrays() {
		arrays = append(arrays, w.a)
	}
	for _, wrong := range others() {
		for _, a := range arrays {
			for _, b := range arrays {
				got, err := Inner(wrong, api.Mul, a, b)
				wantError(t, got, err, api.ErrSyntax)
				got, err = Inner(api.Add, wrong, a, b)
				wantError(t, got, err, api.ErrSyntax)
				got, err = Inner(wrong, wrong, a, b)
				wantError(t, got, err, api.ErrSyntax)
			}
		}
	}
}

// PR2: both are checked, the first one first, ahead of their axes.
func TestInnerRefusesArrays(t *testing.T) {
	rights := []api.Array{nums(nil, 1), list(), text(97, 98), zeros([]int{2, 3}), zeros([]int{1, 1, 1, 1, 1, 1})}
	for _, f := range sixteen() {
		for _, g := range []api.Fn{api.Mul, api.Eq} {
			for _, w := range wrongArrays() {
				for _, right := range rights {
					got, err := Inner(f, g, w.a, right)
					wantError(t, got, err, w.want)
					got, err = Inner(f, g, right, w.a)
					wantError(t, got, err, w.want)
				}
				for _, v := range wrongArrays() {
					got, err := Inner(f, g, w.a, v.a)
					wantError(t, got, err, w.want)
				}
			}
		}
	}
}

// PR2: no axes, other lengths, and Count's error of the shape, in this order, and
// ahead of characters, of no Neutral, and of cells that have no value.
func TestInnerRefusesShapes(t *testing.T) {
	m := api.MaxCells
	for _, c := range []struct {
		a, b []int
		want api.Errno
	}{
		{nil, nil, api.ErrRank},
		{nil, []int{1}, api.ErrRank},
		{[]int{1}, nil, api.ErrRank},
		{nil, []int{0}, api.ErrRank},
		{[]int{0}, nil, api.ErrRank},
		{nil, []int{2, 3}, api.ErrRank},
		{[]int{2, 3}, nil, api.ErrRank},
		{[]int{3}, []int{2}, api.ErrLength},
		{[]int{1}, []int{2}, api.ErrLength},
		{[]int{2}, []int{1}, api.ErrLength},
		{[]int{0}, []int{1}, api.ErrLength},
		{[]int{1}, []int{0}, api.ErrLength},
		{[]int{2, 3}, []int{2, 3}, api.ErrLength},
		{[]int{3, 2}, []int{3}, api.ErrLength},
		{[]int{2, 3}, []int{2}, api.ErrLength},
		{[]int{2}, []int{3, 2}, api.ErrLength},
		{[]int{1, 1, 1, 1, 1, 1}, []int{2, 1, 1, 1, 1, 1}, api.ErrLength},
		{[]int{m, 1}, []int{0, m}, api.ErrLength},
		{[]int{1, 1, 1, 1, 1}, []int{1, 1, 1, 1}, api.ErrRank},
		{[]int{1, 1, 1}, []int{1, 1, 1, 1, 1, 1}, api.ErrRank},
		{[]int{1, 1, 1, 1, 1, 1}, []int{1, 1, 1, 1, 1, 1}, api.ErrRank},
		{[]int{0, 1, 1, 1, 1, 0}, []int{0, 1, 1, 1}, api.ErrRank},
		{[]int{m, 1, 1, 1, 1}, []int{1, m, 1, 1}, api.ErrRank},
		{[]int{65, 1}, []int{1, 64}, api.ErrFull},
		{[]int{64, 2}, []int{2, 65}, api.ErrFull},
		{[]int{m, 1}, []int{1, m}, api.ErrFull},
		{[]int{m, 0}, []int{0, m}, api.ErrFull},
		{[]int{65, 0}, []int{0, 64}, api.ErrFull},
		{[]int{0}, []int{0, m, 2}, api.ErrFull},
		{[]int{m, m, m, 0}, []int{0, m, m, m}, api.ErrFull},
	} {
		for _, f := range sixteen() {
			for _, g := range sixteen() {
				for _, char := range [][2]bool{{false, false}, {true, false}, {false, true}, {true, true}} {
					a, b := zeros(c.a), zeros(c.b)
					a.Char, b.Char = char[0], char[1]
					got, err := Inner(f, g, a, b)
					wantError(t, got, err, c.want)
				}
			}
		}
	}
}

// PR2: characters have no value but where g, whatever f is, is Eq or Ne; even
// where there are no cells.
func TestInnerRefusesCharacters(t *testing.T) {
	for _, f := range sixteen() {
		for _, g := range numeric() {
			for _, p := range [][2]api.Array{
				{text(97, 98), text(97, 98)},
				{text(97, 98), list(1, 2)},
				{list(1, 2), text(97, 98)},
				{text(), list()},
				{list(), text()},
				{text(), text()},
				{chars([]int{0, 2}), list(1, 2)},
				{nums([]int{0, 2}), text(97, 98)},
				{list(1, 2), chars([]int{2, 0})},
			} {
				got, err := Inner(f, g, p[0], p[1])
				wantError(t, got, err, api.ErrDomain)
			}
		}
	}
}

// PR2: Two tells it, by g of any two cells, or by f of what g told.
func TestInnerRefusesCells(t *testing.T) {
	six := nums([]int{2, 3}, 1, 2, 3, 4, 5, 6)
	for _, c := range []struct {
		f, g api.Fn
		a, b api.Array
	}{
		{api.Add, api.Div, list(1, 2), list(1, 0)},
		{api.Add, api.Div, list(1, 2), list(0, 1)},
		{api.Add, api.Div, list(1), list(0)},
		{api.Max, api.Pow, list(1, 2), list(3, -1)},
		{api.Add, api.Div, six, nums([]int{3, 2}, 1, 1, 1, 1, 1, 0)},
		{api.Div, api.Add, list(1, 0), list(2, 0)},
		{api.Div, api.Sub, six, list(1, 2, 6)},
		{api.Div, api.Eq, text(97, 98), text(97, 97)},
		{api.Div, api.Eq, text(97, 98), list(97, 97)},
		{api.Pow, api.Sub, list(1, 1), list(0, 2)},
	} {
		got, err := Inner(c.f, c.g, c.a, c.b)
		wantError(t, got, err, api.ErrDomain)
	}
	// f is asked of no cells but those that g told: of one not at all.
	got, err := Inner(api.Div, api.Mul, list(0), list(5))
	wantArray(t, got, err, nums(nil, 0))
	got, err = Inner(api.Div, api.Add, list(0, 0), list(6, 3))
	wantArray(t, got, err, nums(nil, 2))
}

// PR2: as many cells as there can be, in the lines and in what is told.
func TestInnerOfManyCells(t *testing.T) {
	m := api.MaxCells
	for _, p := range [][2][]int{
		{{m}, {m}}, {{m, 1}, {1}}, {{1}, {1, m}}, {{1, m}, {m, 1}}, {{64, 64}, {64, 64}}, {{64, 1}, {1, 64}},
		{{4, 4, 4, 64}, {64, 4, 4, 4}}, {{1, 1, 1, 1, 1, m}, {m, 1}},
	} {
		a, b := filled(p[0], fillings()[2]), filled(p[1], fillings()[1])
		for _, f := range []api.Fn{api.Add, api.Sub, api.Res} {
			want, wantErr := inner(f, api.Mul, a, b)
			got, err := Inner(f, api.Mul, a, b)
			wantSame(t, got, err, want, wantErr)
		}
	}
}

// spoil writes over all memory that an array hands out.
func spoil(a api.Array) {
	for _, list := range [][]int{a.Shape[:cap(a.Shape)], a.Data[:cap(a.Data)]} {
		for i := range list {
			list[i] = -9
		}
	}
}

// P2, P4: what is handed in stays as it is, behind its length too, and what comes
// out is fresh memory, also where one of the two has no axes.
func TestListsAreNeitherWrittenNorShared(t *testing.T) {
	shapeBack, dataBack := []int{2, 2, 1, 0, -8}, []int{3, 1, 2, 5, -9}
	square := nums(shapeBack[:2], dataBack[:4]...)
	thick := nums(shapeBack[:3], dataBack[:4]...)
	two := nums(shapeBack[:1], dataBack[:2]...)
	one := nums(shapeBack[2:3], dataBack[:1]...)
	single := nums(shapeBack[:0], dataBack[:1]...)
	none := nums(shapeBack[3:4], dataBack[:0]...)
	empty := nums(shapeBack[1:4], dataBack[:0]...)
	for k, call := range []func() (api.Array, error){
		func() (api.Array, error) { return Outer(api.Add, square, square) },
		func() (api.Array, error) { return Outer(api.Add, square, single) },
		func() (api.Array, error) { return Outer(api.Add, single, thick) },
		func() (api.Array, error) { return Outer(api.Add, single, single) },
		func() (api.Array, error) { return Outer(api.Add, none, two) },
		func() (api.Array, error) { return Outer(api.Add, empty, single) },
		func() (api.Array, error) { return Inner(api.Add, api.Mul, square, square) },
		func() (api.Array, error) { return Inner(api.Add, api.Mul, square, two) },
		func() (api.Array, error) { return Inner(api.Add, api.Mul, two, thick) },
		func() (api.Array, error) { return Inner(api.Add, api.Mul, thick, one) },
		func() (api.Array, error) { return Inner(api.Add, api.Mul, two, two) },
		func() (api.Array, error) { return Inner(api.Add, api.Mul, none, none) },
		func() (api.Array, error) { return Inner(api.Add, api.Mul, empty, none) },
		func() (api.Array, error) { return Inner(api.Add, api.Mul, two, empty) },
	} {
		first, err := call()
		if err != nil {
			t.Fatal(k, err)
		}
		kept := nums(slices.Clone(first.Shape), slices.Clone(first.Data)...)
		spoil(api.Array{Shape: first.Shape})
		if !slices.Equal(first.Data, kept.Data) {
			t.Errorf("call %d: its two lists share memory", k)
		}
		spoil(first)
		again, err := call()
		wantArray(t, again, err, kept)
	}
	if !slices.Equal(shapeBack, []int{2, 2, 1, 0, -8}) || !slices.Equal(dataBack, []int{3, 1, 2, 5, -9}) {
		t.Errorf("written into: %v, %v", shapeBack, dataBack)
	}
}

// PR1, PR2: what is told is itself an array that Check finds right.
func TestWhatIsToldIsRight(t *testing.T) {
	for _, s := range shapes() {
		for _, r := range shapes() {
			a, b := filled(s, fillings()[4]), filled(r, fillings()[4])
			if told, err := Outer(api.Mul, a, b); err == nil && arr.Check(told) != nil {
				t.Errorf("Outer of %v and %v: %v", s, r, arr.Check(told))
			}
			if told, err := Inner(api.Add, api.Mul, a, b); err == nil && arr.Check(told) != nil {
				t.Errorf("Inner of %v and %v: %v", s, r, arr.Check(told))
			}
		}
	}
}
