package seek

import (
	"slices"
	"testing"

	"ravelin/api"
	"ravelin/plain"
	"ravelin/shape"
)

// nums and chars are arrays, written short; row and word are those on one axis.
func nums(s []int, data ...int) api.Array { return api.Array{Shape: s, Data: data} }

func chars(s []int, data ...int) api.Array { return api.Array{Char: true, Shape: s, Data: data} }

func row(data ...int) api.Array { return nums([]int{len(data)}, data...) }

func word(data ...int) api.Array { return chars([]int{len(data)}, data...) }

// upTo are the numbers from 0 to below n.
func upTo(n int) []int {
	var all []int
	for i := range n {
		all = append(all, i)
	}
	return all
}

// from are so many numbers from the first one on.
func from(first, many int) []int {
	all := upTo(many)
	for i := range all {
		all[i] += first
	}
	return all
}

func same(a, b api.Array) bool {
	return a.Char == b.Char && slices.Equal(a.Shape, b.Shape) && slices.Equal(a.Data, b.Data)
}

func brief(a api.Array) (bool, []int, []int) {
	return a.Char, a.Shape, a.Data[:min(len(a.Data), 20)]
}

// wantArray holds what is told against what should be.
func wantArray(t *testing.T, got api.Array, err error, want api.Array) {
	t.Helper()
	if !same(got, want) || err != nil {
		gc, gs, gd := brief(got)
		wc, ws, wd := brief(want)
		t.Errorf("got %v %v %v, %v, want %v %v %v", gc, gs, gd, err, wc, ws, wd)
	}
}

// wantError holds what is told with an error against what should be.
func wantError(t *testing.T, got api.Array, err error, want api.Errno) {
	t.Helper()
	if !same(got, api.Array{}) || plain.Told(err) != want {
		c, s, d := brief(got)
		t.Errorf("got %v %v %v, %v, want nothing, %v", c, s, d, err, want)
	}
}

// wrong is an array with a fault, and what Check tells of it.
type wrong struct {
	a    api.Array
	want api.Errno
}

func wrongArrays() []wrong {
	m := api.MaxCells
	return []wrong{
		{nums([]int{1, 1, 1, 1, 1, 1, 1}, 5), api.ErrRank},
		{chars([]int{1, 1, 1, 1, 1, 1, -1}, -5), api.ErrRank},
		{nums([]int{-1}), api.ErrLength},
		{nums([]int{m + 1}, upTo(m+1)...), api.ErrFull},
		{chars([]int{m, 2}, -5), api.ErrFull},
		{api.Array{}, api.ErrLength},
		{chars(nil), api.ErrLength},
		{nums(nil, 1, 2), api.ErrLength},
		{nums([]int{0}, 1), api.ErrLength},
		{nums([]int{2}, 1), api.ErrLength},
		{nums([]int{2}, 1, 2, 3), api.ErrLength},
		{chars([]int{1}, 55296), api.ErrDomain},
		{chars([]int{2}, 97, 1114112), api.ErrDomain},
		{chars(nil, -1), api.ErrDomain},
	}
}

// asChars is the same array as one of characters.
func asChars(a api.Array) api.Array { return api.Array{Char: true, Shape: a.Shape, Data: a.Data} }

// both is an array, as one of numbers and as one of characters.
func both(a api.Array) []api.Array { return []api.Array{a, asChars(a)} }

// strewn is an array of that shape whose cells are numbers below a bound: out of
// order, and, where there are more cells than that, some more than once.
func strewn(s []int, bound, by int) api.Array {
	count, _ := shape.Count(s)
	data := make([]int, count)
	for i := range data {
		data[i] = (by*i + i*i/3 + 2) % bound
	}
	return nums(s, data...)
}

// lines are arrays with one axis, of numbers and of characters.
func lines() []api.Array {
	var list []api.Array
	for _, a := range []api.Array{
		row(), row(0), row(97), row(5, 5), row(5, 6, 5), row(6, 5, 7, 6, 6), row(32, 0, 48, 97),
		strewn([]int{9}, 4, 5), strewn([]int{40}, 13, 7), strewn([]int{70}, 2000, 31),
		row(upTo(50)...), row(from(25, 50)...),
	} {
		list = append(list, both(a)...)
	}
	return append(list, row(api.Least, api.Greatest, -1, 0, -1, api.Least), row(1<<32, 0, -1<<32, 1<<32+97))
}

// arrays are those, and such as have other numbers of axes.
func arrays() []api.Array {
	list := lines()
	for _, a := range []api.Array{
		nums(nil, 5), nums([]int{1, 1}, 97), nums([]int{0, 3}), nums([]int{3, 0}), strewn([]int{2, 3}, 7, 5),
		strewn([]int{3, 1, 4}, 9, 4), strewn([]int{2, 2, 1, 2, 2, 2}, 11, 3),
		nums([]int{0, api.MaxCells, api.MaxCells, api.MaxCells, api.MaxCells, api.MaxCells}),
	} {
		list = append(list, both(a)...)
	}
	return append(list, nums(nil, api.Least), nums([]int{2, 2}, -1, api.Greatest, 0, 5))
}

// others are arrays that have not just one axis.
func others() []api.Array {
	return slices.DeleteFunc(arrays(), func(a api.Array) bool { return len(a.Shape) == 1 })
}

// has tells if a has a cell that is a character or a number, as SE1 says.
func has(a api.Array, char bool, cell int) bool {
	return a.Char == char && slices.Contains(a.Data, cell)
}

// SE1: where each cell stands first.
func TestIndexTells(t *testing.T) {
	m := api.MaxCells
	for _, c := range []struct{ a, b, want api.Array }{
		{row(5, 6), row(6, 7, 5), row(1, 2, 0)},
		{row(5, 6, 5), row(5, 6, 7), row(0, 1, 3)},
		{row(9, 9, 9), row(9), row(0)},
		{row(1, 2, 3), row(3, 3, 1), row(2, 2, 0)},
		{row(0, 1), row(1, 0), row(1, 0)},
		{row(), row(0, 1), row(0, 0)},
		{row(5), row(), row()},
		{row(), row(), row()},
		{row(5, 6), nums(nil, 6), nums(nil, 1)},
		{row(5, 6), nums(nil, 7), nums(nil, 2)},
		{row(5, 6), nums([]int{2, 2}, 6, 5, 0, 6), nums([]int{2, 2}, 1, 0, 2, 1)},
		{row(5, 6), nums([]int{2, 0, 3}), nums([]int{2, 0, 3})},
		{row(7), nums([]int{1, 1, 1, 1, 1, 1}, 7), nums([]int{1, 1, 1, 1, 1, 1}, 0)},
		{row(api.Least, api.Greatest), row(api.Greatest, api.Least, -1, 0), row(1, 0, 2, 2)},
		{word(97, 98), word(98, 97, 99), row(1, 0, 2)},
		{word(97, 98), chars([]int{1, 2}, 98, 98), nums([]int{1, 2}, 1, 1)},
		{word(97, 98), chars(nil, 97), nums(nil, 0)},
		{word(97), chars([]int{0}), row()},
		{word(), word(32), row(0)},
		{row(upTo(m)...), nums([]int{64, 64}, from(1, m)...), nums([]int{64, 64}, from(1, m)...)},
	} {
		got, err := Index(c.a, c.b)
		wantArray(t, got, err, c.want)
	}
}

// SE1: no character is found among numbers, and no number among characters.
func TestIndexTellsCharactersFromNumbers(t *testing.T) {
	for _, c := range []struct{ a, b, want api.Array }{
		{word(97), row(97), row(1)},
		{row(97), word(97), row(1)},
		{row(0, 1, 2), word(0, 1, 2), row(3, 3, 3)},
		{word(0, 1, 2), nums([]int{1, 3}, 0, 1, 2), nums([]int{1, 3}, 3, 3, 3)},
		{row(32), chars(nil, 32), nums(nil, 1)},
		{word(), row(0), row(0)},
		{row(), word(32), row(0)},
		{row(5), word(), row()},
	} {
		got, err := Index(c.a, c.b)
		wantArray(t, got, err, c.want)
	}
}

// SE1: the cell stands at the index that is told, and not ahead of it.
func TestIndexIsTheFirst(t *testing.T) {
	for _, a := range lines() {
		for _, b := range arrays() {
			want := nums(b.Shape, make([]int, len(b.Data))...)
			for k, cell := range b.Data {
				i := slices.Index(a.Data, cell)
				if i < 0 || a.Char != b.Char {
					i = len(a.Data)
				}
				want.Data[k] = i
			}
			got, err := Index(a, b)
			wantArray(t, got, err, want)
		}
	}
}

// SE1: only a must have just one axis.
func TestIndexRefusesAxes(t *testing.T) {
	for _, a := range others() {
		for _, b := range arrays() {
			got, err := Index(a, b)
			wantError(t, got, err, api.ErrRank)
		}
	}
}

// SE2: which cells are there.
func TestInTells(t *testing.T) {
	m := api.MaxCells
	for _, c := range []struct{ a, b, want api.Array }{
		{row(5, 6), row(6), row(0, 1)},
		{row(5, 6, 5), row(5, 7), row(1, 0, 1)},
		{row(5, 6), row(), row(0, 0)},
		{row(), row(5), row()},
		{nums(nil, 5), row(4, 5), nums(nil, 1)},
		{nums(nil, 5), nums(nil, 5), nums(nil, 1)},
		{nums(nil, 5), nums(nil, 0), nums(nil, 0)},
		{row(5, 6), nums(nil, 5), row(1, 0)},
		{row(5, 6, 7, 8), nums([]int{2, 2}, 8, 1, 6, 1), row(0, 1, 0, 1)},
		{nums([]int{2, 2}, 5, 6, 7, 8), row(8, 5), nums([]int{2, 2}, 1, 0, 0, 1)},
		{nums([]int{0, 2}), row(8, 5), nums([]int{0, 2})},
		{nums([]int{1, 2}, 0, 1), nums([]int{2, 0, 3}), nums([]int{1, 2}, 0, 0)},
		{row(api.Least, 0, api.Greatest), row(api.Greatest, api.Least), row(1, 0, 1)},
		{word(97, 98), word(98), row(0, 1)},
		{chars(nil, 97), chars([]int{1, 1}, 97), nums(nil, 1)},
		{word(97, 98), row(98, 97), row(0, 0)},
		{row(97, 98), word(98, 97), row(0, 0)},
		{chars(nil, 0), nums(nil, 0), nums(nil, 0)},
		{word(), row(1), row()},
		{row(0), word(), row(0)},
		{row(m-1, m), nums([]int{64, 64}, upTo(m)...), row(1, 0)},
	} {
		got, err := In(c.a, c.b)
		wantArray(t, got, err, c.want)
	}
}

// SE2: arrays with any axes, the cell found wherever it stands.
func TestInIsCellByCell(t *testing.T) {
	for _, a := range arrays() {
		for _, b := range arrays() {
			want := nums(a.Shape, make([]int, len(a.Data))...)
			for k, cell := range a.Data {
				if has(b, a.Char, cell) {
					want.Data[k] = 1
				}
			}
			got, err := In(a, b)
			wantArray(t, got, err, want)
		}
	}
}

// SE3: each cell once, where it stood first.
func TestNubTells(t *testing.T) {
	m := api.MaxCells
	for _, c := range []struct{ a, want api.Array }{
		{row(5, 6, 5), row(5, 6)},
		{row(6, 5, 6, 7, 5), row(6, 5, 7)},
		{row(3, 1, 2), row(3, 1, 2)},
		{row(4, 4, 4, 4), row(4)},
		{row(0, 0), row(0)},
		{row(), row()},
		{row(api.Least, api.Greatest, api.Least), row(api.Least, api.Greatest)},
		{word(98, 97, 98), word(98, 97)},
		{word(32, 32), word(32)},
		{word(), word()},
		{nums([]int{m}, make([]int, m)...), row(0)},
		{row(upTo(m)...), row(upTo(m)...)},
	} {
		got, err := Nub(c.a)
		wantArray(t, got, err, c.want)
	}
}

// SE3: it is so of all lines, and Nub of it is the same again.
func TestNubIsTheFirstOfEach(t *testing.T) {
	for _, a := range lines() {
		var cells []int
		for _, cell := range a.Data {
			if !slices.Contains(cells, cell) {
				cells = append(cells, cell)
			}
		}
		want := api.Array{Char: a.Char, Shape: []int{len(cells)}, Data: cells}
		got, err := Nub(a)
		wantArray(t, got, err, want)
		got, err = Nub(got)
		wantArray(t, got, err, want)
	}
}

// SE3: it has just one axis.
func TestNubRefusesAxes(t *testing.T) {
	for _, a := range others() {
		got, err := Nub(a)
		wantError(t, got, err, api.ErrRank)
	}
}

// SE4: what is there, and what is not; of the kind of a, whatever b is.
func TestWithoutAndMeetTell(t *testing.T) {
	m := api.MaxCells
	for _, c := range []struct{ a, b, without, meet api.Array }{
		{row(5, 6, 5), row(5), row(6), row(5, 5)},
		{row(5, 6, 7), row(7, 5), row(6), row(5, 7)},
		{row(5, 6, 6, 7), row(8, 9), row(5, 6, 6, 7), row()},
		{row(5, 6), row(6, 5, 6), row(), row(5, 6)},
		{row(5, 5), row(), row(5, 5), row()},
		{row(), row(5), row(), row()},
		{row(), row(), row(), row()},
		{row(0, 1), row(1), row(0), row(1)},
		{row(api.Least, api.Greatest), row(api.Least), row(api.Greatest), row(api.Least)},
		{word(97, 98, 97), word(97), word(98), word(97, 97)},
		{word(97, 98), word(98, 97), word(), word(97, 98)},
		{word(), word(97), word(), word()},
		{word(97, 98, 97), row(97, 98), word(97, 98, 97), word()},
		{row(97, 98, 97), word(97, 98), row(97, 98, 97), row()},
		{word(), row(), word(), word()},
		{row(), word(), row(), row()},
		{row(upTo(m)...), row(from(m/2, m)...), row(upTo(m / 2)...), row(from(m/2, m/2)...)},
	} {
		got, err := Without(c.a, c.b)
		wantArray(t, got, err, c.without)
		got, err = Meet(c.a, c.b)
		wantArray(t, got, err, c.meet)
	}
}

// SE4: of all lines.
func TestWithoutAndMeetPartTheCells(t *testing.T) {
	for _, a := range lines() {
		for _, b := range lines() {
			var left, shared []int
			for _, cell := range a.Data {
				if has(b, a.Char, cell) {
					shared = append(shared, cell)
				} else {
					left = append(left, cell)
				}
			}
			got, err := Without(a, b)
			wantArray(t, got, err, api.Array{Char: a.Char, Shape: []int{len(left)}, Data: left})
			got, err = Meet(a, b)
			wantArray(t, got, err, api.Array{Char: a.Char, Shape: []int{len(shared)}, Data: shared})
		}
	}
}

// SE4: a as it is, and behind it the cells of b that it does not have, as often
// as b has them.
func TestUnionTells(t *testing.T) {
	m := api.MaxCells
	for _, c := range []struct{ a, b, want api.Array }{
		{row(5, 6), row(6, 7, 7), row(5, 6, 7, 7)},
		{row(5, 5, 6), row(5, 6), row(5, 5, 6)},
		{row(5), row(9, 8, 5, 9), row(5, 9, 8, 9)},
		{row(), row(5, 5), row(5, 5)},
		{row(5, 5), row(), row(5, 5)},
		{row(), row(), row()},
		{row(0), row(api.Least, api.Greatest, 0), row(0, api.Least, api.Greatest)},
		{word(97), word(98, 97), word(97, 98)},
		{word(), word(32, 32), word(32, 32)},
		{word(), word(), word()},
		{row(upTo(m)...), row(upTo(m)...), row(upTo(m)...)},
		{row(upTo(m / 2)...), row(from(m/2, m/2)...), row(upTo(m)...)},
		{row(), row(upTo(m)...), row(upTo(m)...)},
		{row(upTo(m - 1)...), row(m-1, 3), row(upTo(m)...)},
		{word(upTo(m)...), word(5), word(upTo(m)...)},
	} {
		got, err := Union(c.a, c.b)
		wantArray(t, got, err, c.want)
	}
}

// SE4: of all lines; where only one of them is Char, it is ErrDomain, even where
// there are no cells.
func TestUnionOfAllLines(t *testing.T) {
	for _, a := range lines() {
		for _, b := range lines() {
			got, err := Union(a, b)
			if a.Char != b.Char {
				wantError(t, got, err, api.ErrDomain)
				continue
			}
			cells := slices.Clone(a.Data)
			for _, cell := range b.Data {
				if !slices.Contains(a.Data, cell) {
					cells = append(cells, cell)
				}
			}
			wantArray(t, got, err, api.Array{Char: a.Char, Shape: []int{len(cells)}, Data: cells})
		}
	}
}

// SE4: more than MaxCells are none, but that only one is Char is told ahead of it.
func TestUnionRefusesTooMany(t *testing.T) {
	m := api.MaxCells
	for _, c := range []struct {
		a, b api.Array
		want api.Errno
	}{
		{row(upTo(m)...), row(m), api.ErrFull},
		{row(upTo(m)...), row(0, -1), api.ErrFull},
		{row(upTo(m - 1)...), row(m, m), api.ErrFull},
		{row(7), row(upTo(m)...), api.OK},
		{row(-7), row(upTo(m)...), api.ErrFull},
		{row(upTo(m)...), row(from(m, m)...), api.ErrFull},
		{word(upTo(m)...), word(m), api.ErrFull},
		{word(upTo(m)...), row(m), api.ErrDomain},
		{row(upTo(m)...), word(m), api.ErrDomain},
		{row(upTo(m)...), word(upTo(m)...), api.ErrDomain},
	} {
		got, err := Union(c.a, c.b)
		if c.want == api.OK {
			wantArray(t, got, err, row(append([]int{7}, slices.DeleteFunc(upTo(m), func(x int) bool { return x == 7 })...)...))
			continue
		}
		wantError(t, got, err, c.want)
	}
}

// SE4: both have just one axis; that is told ahead of all but Check's errors.
func TestSetsRefuseAxes(t *testing.T) {
	for _, call := range []func(a, b api.Array) (api.Array, error){Without, Meet, Union} {
		for _, a := range others() {
			for _, b := range arrays() {
				got, err := call(a, b)
				wantError(t, got, err, api.ErrRank)
				got, err = call(b, a)
				wantError(t, got, err, api.ErrRank)
			}
		}
		full, square := row(upTo(api.MaxCells)...), nums([]int{64, 64}, from(api.MaxCells, api.MaxCells)...)
		got, err := call(full, square)
		wantError(t, got, err, api.ErrRank)
	}
}

// AR1: arrays are checked ahead of all else, the first one first.
func TestArraysAreChecked(t *testing.T) {
	rights := []api.Array{row(5), word(), nums(nil, 5), chars([]int{1, 2}, 97, 98), nums([]int{0, 2})}
	for _, w := range wrongArrays() {
		got, err := Nub(w.a)
		wantError(t, got, err, w.want)
		for _, call := range []func(a, b api.Array) (api.Array, error){Index, In, Without, Meet, Union} {
			for _, right := range rights {
				got, err := call(w.a, right)
				wantError(t, got, err, w.want)
				got, err = call(right, w.a)
				wantError(t, got, err, w.want)
			}
			for _, other := range wrongArrays() {
				got, err := call(w.a, other.a)
				wantError(t, got, err, w.want)
			}
		}
	}
}

// spoil writes over all memory that an array hands out.
func spoil(a api.Array) {
	for _, list := range [][]int{a.Shape[:cap(a.Shape)], a.Data[:cap(a.Data)]} {
		for i := range list {
			list[i] = -9
		}
	}
}

// P2, P4: what is handed in stays as it is, behind its length too, and what
// comes out is fresh memory, also where there are no cells, or no axes.
func TestListsAreNeitherWrittenNorShared(t *testing.T) {
	shapeBack, dataBack, moreBack := []int{4, 1, -8}, []int{3, 1, 3, 0, -9}, []int{1, 7, 7, 3, -7}
	a := nums(shapeBack[:1], dataBack[:4]...)
	b := nums(shapeBack[:1], moreBack[:4]...)
	square := nums(shapeBack[:2], moreBack[:4]...)
	single := nums(shapeBack[:0], dataBack[:1]...)
	none := nums(dataBack[3:4], dataBack[:0]...)
	var calls []func() (api.Array, error)
	for _, x := range []api.Array{a, b, none} {
		calls = append(calls, func() (api.Array, error) { return Nub(x) })
		for _, y := range []api.Array{a, b, none} {
			calls = append(calls,
				func() (api.Array, error) { return Without(x, y) },
				func() (api.Array, error) { return Meet(x, y) },
				func() (api.Array, error) { return Union(x, y) },
			)
		}
		for _, y := range []api.Array{a, b, none, square, single} {
			calls = append(calls,
				func() (api.Array, error) { return Index(x, y) },
				func() (api.Array, error) { return In(x, y) },
				func() (api.Array, error) { return In(y, x) },
			)
		}
	}
	for k, call := range calls {
		first, err := call()
		if err != nil {
			t.Fatal(err)
		}
		kept := nums(slices.Clone(first.Shape), slices.Clone(first.Data)...)
		spoil(api.Array{Shape: first.Shape})
		if !slices.Equal(first.Data, kept.Data) {
			t.Errorf("call %d: its two lists share memory", k)
		}
		spoil(first)
		again, err := call()
		wantArray(t, again, err, kept)
	}
	if !slices.Equal(shapeBack, []int{4, 1, -8}) || !slices.Equal(dataBack, []int{3, 1, 3, 0, -9}) ||
		!slices.Equal(moreBack, []int{1, 7, 7, 3, -7}) {
		t.Errorf("written into: %v, %v, %v", shapeBack, dataBack, moreBack)
	}
}
