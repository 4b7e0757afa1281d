package grade

import (
	"slices"
	"testing"

	"ravelin/api"
	"ravelin/plain"
	"ravelin/shape"
)

// nums and chars are arrays, written short; line and word are those on one axis.
func nums(s []int, data ...int) api.Array { return api.Array{Shape: s, Data: data} }

func chars(s []int, data ...int) api.Array { return api.Array{Char: true, Shape: s, Data: data} }

func line(data ...int) api.Array { return nums([]int{len(data)}, data...) }

func word(data ...int) api.Array { return chars([]int{len(data)}, data...) }

// asChars is the same array as one of characters.
func asChars(a api.Array) api.Array { return chars(a.Shape, a.Data...) }

// upTo are the numbers from 0 to below n.
func upTo(n int) []int {
	var all []int
	for i := range n {
		all = append(all, i)
	}
	return all
}

// downFrom are the numbers below n, from the greatest one on.
func downFrom(n int) []int {
	all := upTo(n)
	slices.Reverse(all)
	return all
}

// lists hands f each list of n of the numbers from low to high.
func lists(n, low, high int, f func([]int)) {
	if n == 0 {
		f(nil)
		return
	}
	lists(n-1, low, high, func(head []int) {
		for x := low; x <= high; x++ {
			f(append(slices.Clone(head), x))
		}
	})
}

// strewn is an array of that shape whose cells are numbers below a bound, without
// a plain rule.
func strewn(s []int, bound int) api.Array {
	count, _ := shape.Count(s)
	data := make([]int, count)
	x := 7
	for i := range data {
		x = (x*1103515245 + 12345) % (1 << 31)
		data[i] = x >> 8 % bound
	}
	return nums(s, data...)
}

func same(a, b api.Array) bool {
	return a.Char == b.Char && slices.Equal(a.Shape, b.Shape) && slices.Equal(a.Data, b.Data)
}

func brief(list []int) []int { return list[:min(len(list), 20)] }

// wantList holds what is told against what should be.
func wantList(t *testing.T, got []int, err error, want []int) {
	t.Helper()
	if !slices.Equal(got, want) || err != nil {
		t.Errorf("got %v, %v, want %v", brief(got), err, brief(want))
	}
}

// wantArray holds an array that is told against what should be.
func wantArray(t *testing.T, got api.Array, err error, want api.Array) {
	t.Helper()
	if !same(got, want) || err != nil {
		t.Errorf("got %v %v %v, %v, want %v %v %v", got.Char, got.Shape, brief(got.Data), err,
			want.Char, want.Shape, brief(want.Data))
	}
}

// wantErrors holds what all three tell of an array against an error.
func wantErrors(t *testing.T, a api.Array, want api.Errno) {
	t.Helper()
	for _, call := range []func(api.Array) ([]int, error){Up, Down} {
		if got, err := call(a); len(got) != 0 || plain.Told(err) != want {
			t.Errorf("%v %v %v: got %v, %v, want nothing, %v", a.Char, a.Shape, brief(a.Data), brief(got), err, want)
		}
	}
	if got, err := Sort(a); !same(got, api.Array{}) || plain.Told(err) != want {
		t.Errorf("%v %v %v: got %v, %v, want nothing, %v", a.Char, a.Shape, brief(a.Data), got.Shape, err, want)
	}
}

// cellsOf are the cells with the index i on the first axis, found one by one by
// their indices.
func cellsOf(a api.Array, i int) []int {
	var cells []int
	for place, cell := range a.Data {
		if at, _ := shape.At(a.Shape, place); at[0] == i {
			cells = append(cells, cell)
		}
	}
	return cells
}

// isLess tells if the first cell in which two rows differ is less in r.
func isLess(r, s []int) bool {
	for k := range r {
		if r[k] != s[k] {
			return r[k] < s[k]
		}
	}
	return false
}

// counted are the indices of rows, each at the place that is the number of those
// that must stand ahead of it.
func counted(rows [][]int, ahead func(r, s []int) bool) []int {
	indices := make([]int, len(rows))
	for i, r := range rows {
		place := 0
		for j, s := range rows {
			if ahead(s, r) || j < i && !ahead(r, s) {
				place++
			}
		}
		indices[place] = i
	}
	return indices
}

// holdToWords holds what is told of an array against GR1's words, with numbers
// and with characters.
func holdToWords(t *testing.T, a api.Array) {
	t.Helper()
	rows := make([][]int, a.Shape[0])
	for i := range rows {
		rows[i] = cellsOf(a, i)
	}
	up := counted(rows, isLess)
	down := counted(rows, func(r, s []int) bool { return isLess(s, r) })
	var sorted []int
	for _, i := range up {
		sorted = append(sorted, rows[i]...)
	}
	holdAll(t, a, up, down, nums(a.Shape, sorted...))
	for _, cell := range a.Data {
		if cell < 0 || cell > 50000 {
			return
		}
	}
	holdAll(t, asChars(a), up, down, chars(a.Shape, sorted...))
}

// holdAll holds what all three tell of an array against what should be.
func holdAll(t *testing.T, a api.Array, up, down []int, sorted api.Array) {
	t.Helper()
	list, err := Up(a)
	wantList(t, list, err, up)
	list, err = Down(a)
	wantList(t, list, err, down)
	got, err := Sort(a)
	wantArray(t, got, err, sorted)
	got, err = Sort(got)
	wantArray(t, got, err, sorted)
}

// GR1: the cells of one axis.
func TestOrderOfCells(t *testing.T) {
	m := api.MaxCells
	least, greatest := api.Least, api.Greatest
	for _, c := range []struct {
		a        api.Array
		up, down []int
		sorted   api.Array
	}{
		{line(5, 3, 5), []int{1, 0, 2}, []int{0, 2, 1}, line(3, 5, 5)},
		{line(3, 1, 2), []int{1, 2, 0}, []int{0, 2, 1}, line(1, 2, 3)},
		{line(7), []int{0}, []int{0}, line(7)},
		{line(4, 4, 4), []int{0, 1, 2}, []int{0, 1, 2}, line(4, 4, 4)},
		{line(2, 1, 2, 1, 2), []int{1, 3, 0, 2, 4}, []int{0, 2, 4, 1, 3}, line(1, 1, 2, 2, 2)},
		{line(0, -1, 1, -2), []int{3, 1, 0, 2}, []int{2, 0, 1, 3}, line(-2, -1, 0, 1)},
		{line(1, greatest, least, -1), []int{2, 3, 0, 1}, []int{1, 0, 3, 2}, line(least, -1, 1, greatest)},
		{line(greatest, least), []int{1, 0}, []int{0, 1}, line(least, greatest)},
		{line(1<<32, 1, 0), []int{2, 1, 0}, []int{0, 1, 2}, line(0, 1, 1<<32)},
		{word(99, 97, 98, 97), []int{1, 3, 2, 0}, []int{0, 2, 1, 3}, word(97, 97, 98, 99)},
		{word(1114111, 969, 0), []int{2, 1, 0}, []int{0, 1, 2}, word(0, 969, 1114111)},
		{line(upTo(m)...), upTo(m), downFrom(m), line(upTo(m)...)},
		{line(downFrom(m)...), downFrom(m), upTo(m), line(upTo(m)...)},
		{line(make([]int, m)...), upTo(m), upTo(m), line(make([]int, m)...)},
	} {
		holdAll(t, c.a, c.up, c.down, c.sorted)
	}
}

// GR1: rows of more cells, the first one that differs deciding.
func TestOrderOfRows(t *testing.T) {
	for _, c := range []struct {
		a        api.Array
		up, down []int
		sorted   api.Array
	}{
		{nums([]int{3, 2}, 2, 1, 1, 9, 2, 0), []int{1, 2, 0}, []int{0, 2, 1}, nums([]int{3, 2}, 1, 9, 2, 0, 2, 1)},
		{nums([]int{3, 2}, 1, 2, 0, 9, 1, 2), []int{1, 0, 2}, []int{0, 2, 1}, nums([]int{3, 2}, 0, 9, 1, 2, 1, 2)},
		{nums([]int{2, 3}, 1, -5, 9, 1, -5, 8), []int{1, 0}, []int{0, 1}, nums([]int{2, 3}, 1, -5, 8, 1, -5, 9)},
		{nums([]int{1, 3}, 3, 2, 1), []int{0}, []int{0}, nums([]int{1, 3}, 3, 2, 1)},
		{nums([]int{3, 1}, 3, 2, 1), []int{2, 1, 0}, []int{0, 1, 2}, nums([]int{3, 1}, 1, 2, 3)},
		{nums([]int{2, 2, 2}, 1, 2, 4, 3, 1, 2, 3, 4), []int{1, 0}, []int{0, 1},
			nums([]int{2, 2, 2}, 1, 2, 3, 4, 1, 2, 4, 3)},
		{nums([]int{2, 1, 1, 1, 1, 2}, 0, 1, 0, 0), []int{1, 0}, []int{0, 1}, nums([]int{2, 1, 1, 1, 1, 2}, 0, 0, 0, 1)},
		{chars([]int{3, 2}, 98, 97, 97, 98, 97, 97), []int{2, 1, 0}, []int{0, 1, 2},
			chars([]int{3, 2}, 97, 97, 97, 98, 98, 97)},
		{nums([]int{2, 2}, 0, api.Greatest, 0, api.Least), []int{1, 0}, []int{0, 1},
			nums([]int{2, 2}, 0, api.Least, 0, api.Greatest)},
	} {
		holdAll(t, c.a, c.up, c.down, c.sorted)
	}
}

// GR1: rows without cells are equal ones, and there may be no row at all.
func TestOrderWithoutCells(t *testing.T) {
	m := api.MaxCells
	for _, s := range [][]int{
		{0}, {0, 3}, {0, 0}, {1, 0}, {3, 0}, {5, 2, 0}, {5, 0, 2}, {m, 0}, {0, m}, {m, m, m, m, m, 0},
		{m, 0, m, m, m, m}, {0, m, m, m, m, m},
	} {
		holdAll(t, nums(s), upTo(s[0]), upTo(s[0]), nums(s))
		holdAll(t, chars(s), upTo(s[0]), upTo(s[0]), chars(s))
	}
}

// GR1: by its words, of all short arrays of few numbers.
func TestOrderOfAllShortArrays(t *testing.T) {
	for _, s := range [][]int{{1}, {2}, {3}, {4}, {5}, {6}, {2, 2}, {3, 2}, {2, 3}, {6, 1}, {1, 6}, {3, 1, 2}, {2, 1, 1, 3}} {
		count, _ := shape.Count(s)
		lists(count, -1, 1, func(data []int) {
			holdToWords(t, nums(s, data...))
		})
	}
}

// GR1: by its words, of longer arrays, in which many rows are equal or few.
func TestOrderOfLongArrays(t *testing.T) {
	for _, s := range [][]int{
		{50}, {300}, {30, 2}, {100, 3}, {2, 150}, {40, 2, 2}, {9, 3, 1, 3}, {25, 1, 2, 1, 1, 2}, {3, 3, 3, 3, 3, 1}, {4, 4, 4, 4, 4, 4},
	} {
		for _, bound := range []int{1, 2, 3, 10, 50000, 1 << 20} {
			holdToWords(t, strewn(s, bound))
		}
	}
}

// GR1: as many rows as there can be, the equal ones as they stand.
func TestOrderKeepsEqualRows(t *testing.T) {
	m := api.MaxCells
	a := strewn([]int{m}, 7)
	var up, down, sorted []int
	for value := range 7 {
		for i, cell := range a.Data {
			if cell == value {
				up = append(up, i)
				sorted = append(sorted, cell)
			}
			if cell == 6-value {
				down = append(down, i)
			}
		}
	}
	holdAll(t, a, up, down, line(sorted...))
	holdAll(t, nums([]int{m, 1, 1}, a.Data...), up, down, nums([]int{m, 1, 1}, sorted...))
}

// GR1: without axes there are no rows.
func TestNoAxesAreRefused(t *testing.T) {
	for _, a := range []api.Array{nums(nil, 1), nums([]int{}, 0), nums(nil, api.Least), chars(nil, 97), chars([]int{}, 0)} {
		wantErrors(t, a, api.ErrRank)
	}
}

// AR1: the array is checked first, also where it has no axes.
func TestArraysAreChecked(t *testing.T) {
	m := api.MaxCells
	for _, c := range []struct {
		a    api.Array
		want api.Errno
	}{
		{nums([]int{1, 1, 1, 1, 1, 1, 1}, 5), api.ErrRank},
		{chars([]int{1, 1, 1, 1, 1, 1, -1}, -5), api.ErrRank},
		{nums([]int{-1}), api.ErrLength},
		{nums([]int{0, -1}), api.ErrLength},
		{nums([]int{api.Least}), api.ErrLength},
		{nums([]int{m + 1}, upTo(m+1)...), api.ErrFull},
		{nums([]int{api.Greatest}), api.ErrFull},
		{nums([]int{0, m + 1}), api.ErrFull},
		{chars([]int{m, 2}, -5), api.ErrFull},
		{api.Array{}, api.ErrLength},
		{chars(nil), api.ErrLength},
		{nums(nil, 1, 2), api.ErrLength},
		{chars(nil, -1, -1), api.ErrLength},
		{nums([]int{0}, 1), api.ErrLength},
		{nums([]int{3}), api.ErrLength},
		{nums([]int{2}, 1), api.ErrLength},
		{nums([]int{2}, 1, 2, 3), api.ErrLength},
		{nums([]int{2, 2}, 1, 2, 3), api.ErrLength},
		{chars([]int{1}, 55296), api.ErrDomain},
		{chars([]int{2}, 97, 1114112), api.ErrDomain},
		{chars([]int{2, 1}, 97, -1), api.ErrDomain},
		{chars(nil, -1), api.ErrDomain},
	} {
		wantErrors(t, c.a, c.want)
	}
}

// spoil writes over all memory of these lists.
func spoil(lists ...[]int) {
	for _, list := range lists {
		whole := list[:cap(list)]
		for i := range whole {
			whole[i] = -9
		}
	}
}

// P2, P4: what is handed in stays as it is, behind its length too, and what
// comes out is fresh memory, also where there are no cells.
func TestListsAreNeitherWrittenNorShared(t *testing.T) {
	shapeBack, dataBack := []int{3, 2, -8}, []int{2, 1, 1, 9, 2, 0, -9}
	noneBack := []int{0, 4, -7}
	for k, a := range []api.Array{
		nums(shapeBack[:2], dataBack[:6]...),
		nums(shapeBack[:1], dataBack[:3]...),
		nums(noneBack[:2], dataBack[:0]...),
		nums(noneBack[:1], noneBack[1:1]...),
	} {
		sorted, err := Sort(a)
		kept := nums(slices.Clone(sorted.Shape), slices.Clone(sorted.Data)...)
		wantArray(t, sorted, err, kept)
		spoil(sorted.Shape)
		if !slices.Equal(sorted.Data, kept.Data) {
			t.Errorf("array %d: the two lists of Sort share memory", k)
		}
		spoil(sorted.Data)
		sorted, err = Sort(a)
		wantArray(t, sorted, err, kept)
		for _, call := range []func(api.Array) ([]int, error){Up, Down} {
			first, err := call(a)
			told := slices.Clone(first)
			wantList(t, first, err, told)
			spoil(first)
			again, err := call(a)
			wantList(t, again, err, told)
		}
	}
	if !slices.Equal(shapeBack, []int{3, 2, -8}) || !slices.Equal(dataBack, []int{2, 1, 1, 9, 2, 0, -9}) ||
		!slices.Equal(noneBack, []int{0, 4, -7}) {
		t.Errorf("written into: %v, %v, %v", shapeBack, dataBack, noneBack)
	}
}
