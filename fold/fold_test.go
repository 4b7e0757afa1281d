package fold

import (
	"math"
	"slices"
	"testing"

	"ravelin/api"
	"ravelin/cell"
	"ravelin/plain"
	"ravelin/shape"
)

// nums and chars are arrays, written short.
func nums(s []int, data ...int) api.Array { return api.Array{Shape: s, Data: data} }

func chars(s []int, data ...int) api.Array { return api.Array{Char: true, Shape: s, Data: data} }

// list is an array of numbers on one axis.
func list(data ...int) api.Array { return nums([]int{len(data)}, data...) }

// upTo are the numbers from 0 to below n.
func upTo(n int) []int {
	var all []int
	for i := range n {
		all = append(all, i)
	}
	return all
}

func same(a, b api.Array) bool {
	return a.Char == b.Char && slices.Equal(a.Shape, b.Shape) && slices.Equal(a.Data, b.Data)
}

func brief(a api.Array) (bool, []int, []int) {
	return a.Char, a.Shape, a.Data[:min(len(a.Data), 20)]
}

// wantArray holds what is told against what should be.
func wantArray(t *testing.T, got api.Array, err error, want api.Array) {
	t.Helper()
	if !same(got, want) || err != nil {
		gc, gs, gd := brief(got)
		wc, ws, wd := brief(want)
		t.Errorf("got %v %v %v, %v, want %v %v %v", gc, gs, gd, err, wc, ws, wd)
	}
}

// wantError holds what is told with an error against what should be.
func wantError(t *testing.T, got api.Array, err error, want api.Errno) {
	t.Helper()
	if !same(got, api.Array{}) || plain.Told(err) != want {
		c, s, d := brief(got)
		t.Errorf("got %v %v %v, %v, want nothing, %v", c, s, d, err, want)
	}
}

// wantSame holds what is told, with its error, against what should be.
func wantSame(t *testing.T, got api.Array, err error, want api.Array, wantErr error) {
	t.Helper()
	if wantErr != nil {
		wantError(t, got, err, plain.Told(wantErr))
		return
	}
	wantArray(t, got, err, want)
}

func sixteen() []api.Fn {
	return []api.Fn{
		api.Add, api.Sub, api.Mul, api.Div, api.Res, api.Max, api.Min, api.Eq,
		api.Ne, api.Lt, api.Le, api.Ge, api.Gt, api.And, api.Or, api.Pow,
	}
}

// others are functions, and numbers of none, that are not of the sixteen.
func others() []api.Fn {
	rest := []api.Fn{math.MinInt, math.MaxInt}
	for f := api.Fn(-3); f <= api.Slope+3; f++ {
		if !slices.Contains(sixteen(), f) {
			rest = append(rest, f)
		}
	}
	return rest
}

// neutralless are the functions of the sixteen without a Neutral.
func neutralless() []api.Fn {
	return []api.Fn{api.Eq, api.Ne, api.Lt, api.Le, api.Ge, api.Gt}
}

// wrong is an array with a fault, and what Check tells of it.
type wrong struct {
	a    api.Array
	want api.Errno
}

func wrongArrays() []wrong {
	m := api.MaxCells
	return []wrong{
		{nums([]int{1, 1, 1, 1, 1, 1, 1}, 5), api.ErrRank},
		{chars([]int{1, 1, 1, 1, 1, 1, -1}, -5), api.ErrRank},
		{nums([]int{-1}), api.ErrLength},
		{nums([]int{m + 1}, upTo(m+1)...), api.ErrFull},
		{chars([]int{m, 2}, -5), api.ErrFull},
		{api.Array{}, api.ErrLength},
		{chars(nil), api.ErrLength},
		{nums(nil, 1, 2), api.ErrLength},
		{nums([]int{0}, 1), api.ErrLength},
		{nums([]int{2}, 1), api.ErrLength},
		{nums([]int{2}, 1, 2, 3), api.ErrLength},
		{nums([]int{2, 3}, 1, 2, 3, 4, 5), api.ErrLength},
		{chars([]int{2}, 97), api.ErrLength},
		{chars([]int{1}, 55296), api.ErrDomain},
		{chars([]int{2, 1}, 97, 1114112), api.ErrDomain},
		{chars(nil, -1), api.ErrDomain},
	}
}

// shapes are some of each number of axes, without cells and with many.
func shapes() [][]int {
	m := api.MaxCells
	return [][]int{
		nil, {0}, {1}, {2}, {7}, {40},
		{0, 3}, {3, 0}, {0, 0}, {1, 5}, {5, 1}, {2, 3}, {4, 4}, {20, 30}, {m, 0}, {0, m},
		{2, 3, 4}, {4, 1, 3}, {3, 0, 2}, {0, 64, 64}, {9, 8, 7}, {16, 0, 0},
		{2, 1, 3, 4}, {5, 4, 3, 2},
		{2, 3, 1, 2, 3}, {1, 1, 1, 1, 0},
		{3, 2, 4, 2, 3, 2}, {1, 2, 3, 4, 2, 3}, {0, m, 1, 1, 1, 1}, {m, m, m, m, m, 0}, {0, m, m, m, m, 0},
	}
}

// filled is an array of that shape with what of tells of each place.
func filled(s []int, of func(place int) int) api.Array {
	count, _ := shape.Count(s)
	data := make([]int, count)
	for place := range data {
		data[place] = of(place)
	}
	return nums(s, data...)
}

// fillings are rules by which cells are filled: some by which all functions have
// a value, and some by which Div and Pow have none in some lines.
func fillings() []func(place int) int {
	return []func(int) int{
		func(int) int { return 1 },
		func(place int) int { return 3*place + 100 },
		func(place int) int { return place * place * 6364136223846793005 >> 5 },
		func(place int) int { return place*7%5 - 2 },
		func(place int) int { return place*11%3 + 1 },
		func(place int) int { return []int{api.Least, -1, 0, 1, api.Greatest, 2, -2}[place%7] },
	}
}

// foldsTo is what numbers fold to, by FO1's words.
func foldsTo(f api.Fn, cells []int) (int, error) {
	switch len(cells) {
	case 0:
		return cell.Neutral(f)
	case 1:
		return cells[0], nil
	}
	rest, err := foldsTo(f, cells[1:])
	if err != nil {
		return 0, err
	}
	return cell.Two(f, cells[0], rest)
}

// alongAxis are the cells of a at the indices of an axis from one to below
// another, the other indices being those of at.
func alongAxis(a api.Array, axis int, at []int, from, to int) []int {
	var cells []int
	for i := from; i < to; i++ {
		at[axis] = i
		place, _ := shape.Place(a.Shape, at)
		cells = append(cells, a.Data[place])
	}
	return cells
}

// found is an array of the shape s, at whose indices stands what the cells fold to
// that from tells of them; indices by the words of chapter 1.
func found(f api.Fn, s []int, from func(at []int) []int) (api.Array, error) {
	count, err := shape.Count(s)
	if err != nil {
		return api.Array{}, err
	}
	data := make([]int, count)
	for place := range data {
		at, _ := shape.At(s, place)
		data[place], err = foldsTo(f, from(at))
		if err != nil {
			return api.Array{}, err
		}
	}
	return nums(s, data...), nil
}

// reduced, scanned and windowed are what the three calls tell where nothing is
// wrong but what Two and Neutral tell, and how many cells there are.
func reduced(f api.Fn, axis int, a api.Array) (api.Array, error) {
	if a.Shape[axis] == 0 && slices.Contains(neutralless(), f) {
		return api.Array{}, api.ErrDomain
	}
	s := slices.Delete(slices.Clone(a.Shape), axis, axis+1)
	return found(f, s, func(at []int) []int {
		return alongAxis(a, axis, slices.Insert(at, axis, 0), 0, a.Shape[axis])
	})
}

func scanned(f api.Fn, axis int, a api.Array) (api.Array, error) {
	return found(f, a.Shape, func(at []int) []int {
		return alongAxis(a, axis, at, 0, at[axis]+1)
	})
}

func windowed(f api.Fn, n, axis int, a api.Array) (api.Array, error) {
	s := slices.Clone(a.Shape)
	s[axis] -= n - 1
	return found(f, s, func(at []int) []int {
		return alongAxis(a, axis, at, at[axis], at[axis]+n)
	})
}

// noAxes are numbers of no axis, where there are so many.
func noAxes(axes int) []int {
	return []int{-1, axes, axes + 1, -axes - 1, api.MaxRank, api.Least, api.Greatest}
}

// FO1: a line folds from its end on.
func TestReduceFoldsALine(t *testing.T) {
	least, greatest := api.Least, api.Greatest
	for _, c := range []struct {
		f     api.Fn
		cells []int
		want  int
	}{
		{api.Add, []int{1, 2, 3, 4}, 10},
		{api.Add, []int{greatest, 1}, least},
		{api.Add, []int{greatest, greatest, 2}, 0},
		{api.Sub, []int{5, 3}, 2},
		{api.Sub, []int{5, 3, 1}, 3},
		{api.Sub, []int{1, 2, 3, 4, 5}, 3},
		{api.Sub, []int{least, 1}, greatest},
		{api.Mul, []int{2, -3, 4}, -24},
		{api.Mul, []int{1 << 32, 1 << 32, 5}, 0},
		{api.Div, []int{100, 7, 2}, 33},
		{api.Div, []int{-7, 2}, -4},
		{api.Div, []int{0, 5}, 0},
		{api.Div, []int{least, -1}, least},
		{api.Res, []int{3, 7}, 1},
		{api.Res, []int{10, 7, 26}, 5},
		{api.Res, []int{7, 0, -4}, 3},
		{api.Max, []int{3, 9, -2}, 9},
		{api.Max, []int{-3, least, -2}, -2},
		{api.Min, []int{3, -9, 2}, -9},
		{api.Eq, []int{0, 5, 6}, 1},
		{api.Eq, []int{5, 5, 5}, 0},
		{api.Ne, []int{1, 5, 6}, 0},
		{api.Ne, []int{5, 5, 5}, 1},
		{api.Lt, []int{1, 2, 3}, 0},
		{api.Lt, []int{0, 2, 3}, 1},
		{api.Le, []int{1, 2, 3}, 1},
		{api.Le, []int{2, 2, 3}, 0},
		{api.Ge, []int{0, 3, 2}, 0},
		{api.Ge, []int{1, 3, 2}, 1},
		{api.Gt, []int{1, 3, 2}, 0},
		{api.Gt, []int{3, 2, 1}, 1},
		{api.And, []int{7, 14, -4}, 4},
		{api.Or, []int{1, 4, 8}, 13},
		{api.Pow, []int{2, 3, 2}, 512},
		{api.Pow, []int{-1, 2}, 1},
		{api.Pow, []int{5, 0, 3}, 1},
	} {
		got, err := Reduce(c.f, 0, list(c.cells...))
		wantArray(t, got, err, nums(nil, c.want))
	}
}

// FO1: numbers fold to the same whether they stand in an array or not.
func TestCellsFoldAsALineDoes(t *testing.T) {
	for _, of := range fillings() {
		for _, n := range []int{0, 1, 2, 3, 8} {
			a := filled([]int{n}, of)
			for _, f := range sixteen() {
				want, wantErr := foldsTo(f, a.Data)
				got, err := Cells(f, a.Data)
				if got != want || plain.Told(err) != plain.Told(wantErr) {
					t.Errorf("%v of %v: got %v, %v, want %v, %v", f, a.Data, got, err, want, wantErr)
				}
			}
		}
	}
}

// FO1: that axis is gone, and at each place stands what folds along it.
func TestReduceTells(t *testing.T) {
	six := nums([]int{2, 3}, 1, 2, 3, 40, 50, 60)
	eight := nums([]int{2, 2, 2}, 1, 2, 3, 4, 5, 6, 7, 8)
	for _, c := range []struct {
		f       api.Fn
		axis    int
		a, want api.Array
	}{
		{api.Add, 0, six, nums([]int{3}, 41, 52, 63)},
		{api.Add, 1, six, nums([]int{2}, 6, 150)},
		{api.Sub, 0, six, nums([]int{3}, -39, -48, -57)},
		{api.Sub, 1, six, nums([]int{2}, 2, 50)},
		{api.Add, 0, eight, nums([]int{2, 2}, 6, 8, 10, 12)},
		{api.Add, 1, eight, nums([]int{2, 2}, 4, 6, 12, 14)},
		{api.Add, 2, eight, nums([]int{2, 2}, 3, 7, 11, 15)},
		{api.Add, 5, nums([]int{1, 1, 1, 1, 1, 2}, 3, 4), nums([]int{1, 1, 1, 1, 1}, 7)},
		{api.Eq, 0, nums([]int{3, 0}), nums([]int{0})},
		{api.Add, 2, nums([]int{2, 0, 3}), nums([]int{2, 0})},
	} {
		got, err := Reduce(c.f, c.axis, c.a)
		wantArray(t, got, err, c.want)
	}
}

// FO1: one folds to itself by each function, also where f would have no value of
// it.
func TestOneFoldsToItself(t *testing.T) {
	for _, f := range sixteen() {
		for _, x := range []int{0, 1, 5, -7, api.Least, api.Greatest} {
			got, err := Reduce(f, 0, list(x))
			wantArray(t, got, err, nums(nil, x))
			got, err = Scan(f, 0, list(x))
			wantArray(t, got, err, list(x))
			got, err = Windows(f, 1, 0, list(x))
			wantArray(t, got, err, list(x))
			got, err = Windows(f, 1, 1, nums([]int{1, 3}, x, 0, -9))
			wantArray(t, got, err, nums([]int{1, 3}, x, 0, -9))
		}
	}
}

// FO1: none folds to Neutral, at each place that is left.
func TestNoneFoldsToNeutral(t *testing.T) {
	m := api.MaxCells
	for f, e := range map[api.Fn]int{
		api.Add: 0, api.Sub: 0, api.Res: 0, api.Or: 0,
		api.Mul: 1, api.Div: 1, api.Pow: 1,
		api.Max: api.Least, api.Min: api.Greatest, api.And: -1,
	} {
		for _, c := range []struct {
			axis    int
			s, want []int
		}{
			{0, []int{0}, nil},
			{0, []int{0, 3}, []int{3}},
			{1, []int{3, 0}, []int{3}},
			{1, []int{2, 0, 3}, []int{2, 3}},
			{0, []int{0, 0}, []int{0}},
			{1, []int{0, 0}, []int{0}},
			{0, []int{0, m}, []int{m}},
			{1, []int{64, 0, 64}, []int{64, 64}},
			{5, []int{4, 4, 4, 8, 8, 0}, []int{4, 4, 4, 8, 8}},
			{0, []int{0, m, m, m, m, 0}, []int{m, m, m, m, 0}},
			{5, []int{0, m, m, m, m, 0}, []int{0, m, m, m, m}},
		} {
			got, err := Reduce(f, c.axis, nums(c.s))
			wantArray(t, got, err, filled(c.want, func(int) int { return e }))
		}
	}
}

// FO1: the axis has no cells, and f no Neutral; whether places are left or not,
// and ahead of how many of them there are.
func TestReduceRefusesNone(t *testing.T) {
	m := api.MaxCells
	for _, f := range neutralless() {
		for _, c := range []struct {
			axis int
			s    []int
		}{
			{0, []int{0}},
			{0, []int{0, 3}},
			{1, []int{3, 0}},
			{0, []int{0, 0}},
			{1, []int{0, 0}},
			{0, []int{0, m, m}},
			{5, []int{m, m, m, m, m, 0}},
			{0, []int{0, m, m, m, m, 0}},
		} {
			got, err := Reduce(f, c.axis, nums(c.s))
			wantError(t, got, err, api.ErrDomain)
		}
		// Another axis without cells leaves nothing to fold, and nothing wrong.
		got, err := Reduce(f, 1, nums([]int{0, 3}))
		wantArray(t, got, err, nums([]int{0}))
		got, err = Reduce(f, 0, nums([]int{m, m, m, m, m, 0}))
		wantArray(t, got, err, nums([]int{m, m, m, m, 0}))
	}
}

// FO1: more than MaxCells cells would be told.
func TestReduceRefusesTooMany(t *testing.T) {
	m := api.MaxCells
	for _, f := range sixteen() {
		if slices.Contains(neutralless(), f) {
			continue
		}
		for _, c := range []struct {
			axis int
			s    []int
		}{
			{0, []int{0, m, 2}},
			{0, []int{0, m, m}},
			{1, []int{65, 0, 64}},
			{2, []int{17, 241, 0}},
			{5, []int{m, m, m, m, m, 0}},
			{0, []int{0, m, m, m, m, m}},
			{3, []int{m, m, m, 0, m, m}},
		} {
			got, err := Reduce(f, c.axis, nums(c.s))
			wantError(t, got, err, api.ErrFull)
		}
	}
}

// FO1 to FO3: Two tells it, of any line and of any run of one.
func TestTwoTellsIt(t *testing.T) {
	for _, c := range []struct {
		f     api.Fn
		cells []int
	}{
		{api.Div, []int{5, 0}},
		{api.Div, []int{1, 0, 5}},
		{api.Div, []int{7, 2, 3}},
		{api.Div, []int{0, 0}},
		{api.Pow, []int{2, -1}},
		{api.Pow, []int{2, -1, 3}},
		{api.Pow, []int{1, api.Least}},
	} {
		n := len(c.cells)
		twoLines := nums([]int{2, n}, append(slices.Repeat([]int{1}, n), c.cells...)...)
		for k, a := range []api.Array{list(c.cells...), twoLines} {
			got, err := Reduce(c.f, k, a)
			wantError(t, got, err, api.ErrDomain)
			got, err = Scan(c.f, k, a)
			wantError(t, got, err, api.ErrDomain)
			got, err = Windows(c.f, n, k, a)
			wantError(t, got, err, api.ErrDomain)
		}
	}
}

// FO1, FO2, FO3: each folds other cells, so that one can have a value where
// another has none.
func TestWhatIsNotFoldedIsNotWrong(t *testing.T) {
	// Only where cells fold one by one is 6 / 0 never asked.
	a := list(6, 0, 4)
	got, err := Reduce(api.Div, 0, a)
	wantError(t, got, err, api.ErrDomain)
	got, err = Scan(api.Div, 0, a)
	wantError(t, got, err, api.ErrDomain)
	got, err = Windows(api.Div, 1, 0, a)
	wantArray(t, got, err, a)
	// All three fold to a number, the first two do not.
	a = list(2, -1, 0)
	got, err = Reduce(api.Pow, 0, a)
	wantArray(t, got, err, nums(nil, 2))
	got, err = Scan(api.Pow, 0, a)
	wantError(t, got, err, api.ErrDomain)
	got, err = Windows(api.Pow, 3, 0, a)
	wantArray(t, got, err, list(2))
	got, err = Windows(api.Pow, 2, 0, a)
	wantError(t, got, err, api.ErrDomain)
	// The first two fold to a number, the others do not.
	a = list(8, 4, 0)
	got, err = Scan(api.Div, 0, list(8, 4))
	wantArray(t, got, err, list(8, 2))
	got, err = Windows(api.Div, 2, 0, a)
	wantError(t, got, err, api.ErrDomain)
}

// FO1: by its words, along each axis of each shape.
func TestReduceAlongEachAxis(t *testing.T) {
	for _, s := range shapes() {
		for _, of := range fillings() {
			a := filled(s, of)
			for axis := range s {
				for _, f := range sixteen() {
					want, wantErr := reduced(f, axis, a)
					got, err := Reduce(f, axis, a)
					wantSame(t, got, err, want, wantErr)
				}
			}
		}
	}
}

// FO2: what the cells so far fold to.
func TestScanTells(t *testing.T) {
	six := nums([]int{2, 3}, 1, 2, 3, 40, 50, 60)
	m := api.MaxCells
	for _, c := range []struct {
		f       api.Fn
		axis    int
		a, want api.Array
	}{
		{api.Add, 0, list(1, 2, 3), list(1, 3, 6)},
		{api.Sub, 0, list(1, 2, 3, 4), list(1, -1, 2, -2)},
		{api.Mul, 0, list(2, 3, 4, 0), list(2, 6, 24, 0)},
		{api.Div, 0, list(100, 7, 2), list(100, 14, 33)},
		{api.Pow, 0, list(2, 3, 2), list(2, 8, 512)},
		{api.Max, 0, list(3, 1, 4, 1, 5), list(3, 3, 4, 4, 5)},
		{api.Eq, 0, list(7, 7, 7), list(7, 1, 0)},
		{api.Lt, 0, list(0, 2, 3), list(0, 1, 1)},
		{api.Add, 0, six, nums([]int{2, 3}, 1, 2, 3, 41, 52, 63)},
		{api.Add, 1, six, nums([]int{2, 3}, 1, 3, 6, 40, 90, 150)},
		{api.Sub, 1, six, nums([]int{2, 3}, 1, -1, 2, 40, -10, 50)},
		{api.Add, 1, nums([]int{2, 2, 2}, 1, 2, 3, 4, 5, 6, 7, 8), nums([]int{2, 2, 2}, 1, 2, 4, 6, 5, 6, 12, 14)},
		{api.Add, 0, list(), list()},
		{api.Eq, 0, list(), list()},
		{api.Gt, 1, nums([]int{3, 0}), nums([]int{3, 0})},
		{api.Gt, 0, nums([]int{3, 0}), nums([]int{3, 0})},
		{api.Ne, 0, nums([]int{0, m, m}), nums([]int{0, m, m})},
		{api.Add, 1, nums([]int{0, m, m, m, m, m}), nums([]int{0, m, m, m, m, m})},
		{api.Add, 5, nums([]int{m, m, m, m, m, 0}), nums([]int{m, m, m, m, m, 0})},
	} {
		got, err := Scan(c.f, c.axis, c.a)
		wantArray(t, got, err, c.want)
	}
}

// FO2: by its words, along each axis of each shape.
func TestScanAlongEachAxis(t *testing.T) {
	for _, s := range shapes() {
		for _, of := range fillings() {
			a := filled(s, of)
			for axis := range s {
				for _, f := range sixteen() {
					want, wantErr := scanned(f, axis, a)
					got, err := Scan(f, axis, a)
					wantSame(t, got, err, want, wantErr)
				}
			}
		}
	}
}

// FO1, FO2: what Scan has at the last index is what Reduce tells.
func TestScanEndsWithReduce(t *testing.T) {
	a := filled([]int{3, 5, 4}, func(place int) int { return place*13%9 + 1 })
	for axis, length := range a.Shape {
		for _, f := range []api.Fn{api.Add, api.Sub, api.Mul, api.Res, api.Eq, api.Gt, api.Max} {
			want, err := Reduce(f, axis, a)
			if err != nil {
				t.Fatal(err)
			}
			scan, err := Scan(f, axis, a)
			if err != nil {
				t.Fatal(err)
			}
			for place, x := range want.Data {
				at, _ := shape.At(want.Shape, place)
				last, _ := shape.Place(scan.Shape, slices.Insert(at, axis, length-1))
				if scan.Data[last] != x {
					t.Errorf("Scan(%d, %d): got %d at %v, want %d", f, axis, scan.Data[last], at, x)
				}
			}
		}
	}
}

// FO3: what n cells from each index on fold to.
func TestWindowsTells(t *testing.T) {
	six := nums([]int{2, 3}, 1, 2, 3, 40, 50, 60)
	m := api.MaxCells
	for _, c := range []struct {
		f       api.Fn
		n, axis int
		a, want api.Array
	}{
		{api.Add, 1, 0, list(1, 2, 3), list(1, 2, 3)},
		{api.Add, 2, 0, list(1, 2, 3), list(3, 5)},
		{api.Add, 3, 0, list(1, 2, 3), list(6)},
		{api.Sub, 2, 0, list(9, 4, 7, 7), list(5, -3, 0)},
		{api.Sub, 3, 0, list(9, 4, 7, 8), list(12, 5)},
		{api.Pow, 3, 0, list(2, 3, 2, 1), list(512, 9)},
		{api.Lt, 2, 0, list(1, 3, 3, 5), list(1, 0, 1)},
		{api.Eq, 3, 0, list(0, 5, 6, 0), list(1, 0)},
		{api.Add, 1, 0, six, six},
		{api.Add, 2, 0, six, nums([]int{1, 3}, 41, 52, 63)},
		{api.Add, 2, 1, six, nums([]int{2, 2}, 3, 5, 90, 110)},
		{api.Add, 3, 1, six, nums([]int{2, 1}, 6, 150)},
		{api.Sub, 2, 1, nums([]int{2, 3, 1}, 9, 4, 7, 1, 2, 4), nums([]int{2, 2, 1}, 5, -3, -1, -2)},
		{api.Eq, 2, 0, nums([]int{3, 0}), nums([]int{2, 0})},
		{api.Eq, 3, 0, nums([]int{3, 0}), nums([]int{1, 0})},
		{api.Add, m, 0, nums([]int{m, m, m, m, m, 0}), nums([]int{1, m, m, m, m, 0})},
		{api.Add, 1, 1, nums([]int{0, m, m, m, m, m}), nums([]int{0, m, m, m, m, m})},
	} {
		got, err := Windows(c.f, c.n, c.axis, c.a)
		wantArray(t, got, err, c.want)
	}
}

// FO3: by its words, along each axis of each shape, as many as there can be.
func TestWindowsAlongEachAxis(t *testing.T) {
	for _, s := range shapes() {
		for _, of := range fillings() {
			a := filled(s, of)
			for axis, length := range s {
				for _, n := range []int{1, 2, 3, length / 2, length - 1, length} {
					if n < 1 || n > length {
						continue
					}
					for _, f := range sixteen() {
						want, wantErr := windowed(f, n, axis, a)
						got, err := Windows(f, n, axis, a)
						wantSame(t, got, err, want, wantErr)
					}
				}
			}
		}
	}
}

// FO3: n is below 1 or above the axis's length, ahead of what Two tells.
func TestWindowsRefusesLengths(t *testing.T) {
	for _, s := range shapes() {
		a := filled(s, func(int) int { return 0 })
		for axis, length := range s {
			for _, n := range []int{0, -1, -length, length + 1, length + 2, api.Least, api.Greatest} {
				if n >= 1 && n <= length {
					continue
				}
				for _, f := range sixteen() {
					got, err := Windows(f, n, axis, a)
					wantError(t, got, err, api.ErrLength)
				}
			}
		}
	}
}

// calls are the three calls, Windows of some numbers.
func calls() []func(f api.Fn, axis int, a api.Array) (api.Array, error) {
	three := []func(api.Fn, int, api.Array) (api.Array, error){Reduce, Scan}
	for _, n := range []int{1, 0, 2, -1, api.Least, api.Greatest} {
		three = append(three, func(f api.Fn, axis int, a api.Array) (api.Array, error) {
			return Windows(f, n, axis, a)
		})
	}
	return three
}

// FO1 to FO3: a function that is none of the sixteen is told ahead of all.
func TestFunctionsAreRefused(t *testing.T) {
	arrays := []api.Array{list(1, 2), list(), nums(nil, 1), chars([]int{1}, 97), nums([]int{0, 4096, 4096})}
	for _, w := range wrongArrays() {
		arrays = append(arrays, w.a)
	}
	for _, call := range calls() {
		for _, f := range others() {
			for _, a := range arrays {
				for axis := -1; axis < 2; axis++ {
					got, err := call(f, axis, a)
					wantError(t, got, err, api.ErrSyntax)
				}
			}
		}
	}
}

// FO1 to FO3: then what Check tells.
func TestArraysAreRefused(t *testing.T) {
	for _, call := range calls() {
		for _, w := range wrongArrays() {
			for _, f := range sixteen() {
				for axis := -1; axis <= api.MaxRank+1; axis++ {
					got, err := call(f, axis, w.a)
					wantError(t, got, err, w.want)
				}
			}
		}
	}
}

// FO1 to FO3: then that there is no such axis, of characters too.
func TestAxesAreRefused(t *testing.T) {
	for _, call := range calls() {
		for _, s := range shapes() {
			a := filled(s, func(int) int { return 0 })
			for _, axis := range noAxes(len(s)) {
				for _, f := range sixteen() {
					got, err := call(f, axis, a)
					wantError(t, got, err, api.ErrIndex)
					got, err = call(f, axis, chars(a.Shape, a.Data...))
					wantError(t, got, err, api.ErrIndex)
				}
			}
		}
	}
}

// FO1 to FO3: then characters, whatever the function and however many they are.
func TestCharactersAreRefused(t *testing.T) {
	for _, call := range calls() {
		for _, s := range shapes() {
			a := filled(s, func(place int) int { return 97 + place })
			for axis := range s {
				for _, f := range sixteen() {
					got, err := call(f, axis, chars(a.Shape, a.Data...))
					wantError(t, got, err, api.ErrDomain)
				}
			}
		}
	}
}

// FO1 to FO3: as many cells as there can be, on one axis and on six.
func TestManyCells(t *testing.T) {
	m := api.MaxCells
	for _, s := range [][]int{{m}, {1, m}, {m, 1}, {64, 64}, {4, 4, 4, 4, 4, 4}} {
		a := filled(s, func(place int) int { return place*place*6364136223846793005>>7 | 1 })
		for axis, length := range s {
			for _, f := range []api.Fn{api.Sub, api.Res} {
				want, wantErr := reduced(f, axis, a)
				got, err := Reduce(f, axis, a)
				wantSame(t, got, err, want, wantErr)
				want, wantErr = windowed(f, (length+1)/2, axis, a)
				got, err = Windows(f, (length+1)/2, axis, a)
				wantSame(t, got, err, want, wantErr)
			}
			want, wantErr := scanned(api.Sub, axis, a)
			got, err := Scan(api.Sub, axis, a)
			wantSame(t, got, err, want, wantErr)
		}
	}
}

// spoil writes over all memory that an array hands out.
func spoil(a api.Array) {
	for _, list := range [][]int{a.Shape[:cap(a.Shape)], a.Data[:cap(a.Data)]} {
		for i := range list {
			list[i] = -9
		}
	}
}

// P2, P4: what is handed in stays as it is, behind its length too, and what
// comes out is fresh memory, also where each cell folds to itself.
func TestListsAreNeitherWrittenNorShared(t *testing.T) {
	shapeBack, dataBack := []int{2, 2, 1, 0, -8}, []int{3, 1, 2, 5, -9}
	square := nums(shapeBack[:2], dataBack[:4]...)
	thick := nums(shapeBack[:3], dataBack[:4]...)
	two := nums(shapeBack[:1], dataBack[:2]...)
	one := nums(shapeBack[2:3], dataBack[:1]...)
	none := nums(shapeBack[3:4], dataBack[:0]...)
	empty := nums(shapeBack[1:4], dataBack[:0]...)
	for k, call := range []func() (api.Array, error){
		func() (api.Array, error) { return Reduce(api.Add, 0, square) },
		func() (api.Array, error) { return Reduce(api.Add, 1, square) },
		func() (api.Array, error) { return Reduce(api.Sub, 2, thick) },
		func() (api.Array, error) { return Reduce(api.Sub, 0, two) },
		func() (api.Array, error) { return Reduce(api.Eq, 0, one) },
		func() (api.Array, error) { return Reduce(api.Max, 0, none) },
		func() (api.Array, error) { return Reduce(api.Max, 1, empty) },
		func() (api.Array, error) { return Reduce(api.Max, 2, empty) },
		func() (api.Array, error) { return Scan(api.Add, 0, square) },
		func() (api.Array, error) { return Scan(api.Add, 1, square) },
		func() (api.Array, error) { return Scan(api.Sub, 2, thick) },
		func() (api.Array, error) { return Scan(api.Eq, 0, one) },
		func() (api.Array, error) { return Scan(api.Eq, 0, none) },
		func() (api.Array, error) { return Scan(api.Eq, 2, empty) },
		func() (api.Array, error) { return Windows(api.Add, 1, 0, square) },
		func() (api.Array, error) { return Windows(api.Add, 2, 1, square) },
		func() (api.Array, error) { return Windows(api.Sub, 1, 2, thick) },
		func() (api.Array, error) { return Windows(api.Eq, 1, 0, one) },
		func() (api.Array, error) { return Windows(api.Eq, 2, 0, empty) },
	} {
		first, err := call()
		if err != nil {
			t.Fatal(k, err)
		}
		kept := nums(slices.Clone(first.Shape), slices.Clone(first.Data)...)
		spoil(api.Array{Shape: first.Shape})
		if !slices.Equal(first.Data, kept.Data) {
			t.Errorf("call %d: its two lists share memory", k)
		}
		spoil(first)
		again, err := call()
		wantArray(t, again, err, kept)
	}
	if !slices.Equal(shapeBack, []int{2, 2, 1, 0, -8}) || !slices.Equal(dataBack, []int{3, 1, 2, 5, -9}) {
		t.Errorf("written into: %v, %v", shapeBack, dataBack)
	}
}
