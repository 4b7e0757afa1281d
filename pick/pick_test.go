package pick

import (
	"slices"
	"testing"

	"ravelin/api"
	"ravelin/cut"
	"ravelin/plain"
	"ravelin/shape"
	"ravelin/turn"
)

// nums and chars are arrays, written short; by is a list of them, and line are
// numbers on one axis.
func nums(s []int, data ...int) api.Array { return api.Array{Shape: s, Data: data} }

func chars(s []int, data ...int) api.Array { return api.Array{Char: true, Shape: s, Data: data} }

func by(arrays ...api.Array) []api.Array { return arrays }

func line(data ...int) api.Array { return nums([]int{len(data)}, data...) }

// upTo are the numbers from 0 to below n.
func upTo(n int) []int {
	var all []int
	for i := range n {
		all = append(all, i)
	}
	return all
}

func same(a, b api.Array) bool {
	return a.Char == b.Char && slices.Equal(a.Shape, b.Shape) && slices.Equal(a.Data, b.Data)
}

func brief(a api.Array) (bool, []int, []int) {
	return a.Char, a.Shape, a.Data[:min(len(a.Data), 20)]
}

// wantArray holds what is told against what should be.
func wantArray(t *testing.T, got api.Array, err error, want api.Array) {
	t.Helper()
	if !same(got, want) || err != nil {
		gc, gs, gd := brief(got)
		wc, ws, wd := brief(want)
		t.Errorf("got %v %v %v, %v, want %v %v %v", gc, gs, gd, err, wc, ws, wd)
	}
}

// wantError holds what is told with an error against what should be.
func wantError(t *testing.T, got api.Array, err error, want api.Errno) {
	t.Helper()
	if !same(got, api.Array{}) || plain.Told(err) != want {
		c, s, d := brief(got)
		t.Errorf("got %v %v %v, %v, want nothing, %v", c, s, d, err, want)
	}
}

// wrong is an array with a fault, and what Check tells of it.
type wrong struct {
	a    api.Array
	want api.Errno
}

func wrongArrays() []wrong {
	m := api.MaxCells
	return []wrong{
		{nums([]int{1, 1, 1, 1, 1, 1, 1}, 5), api.ErrRank},
		{chars([]int{1, 1, 1, 1, 1, 1, -1}, -5), api.ErrRank},
		{nums([]int{-1}), api.ErrLength},
		{nums([]int{m + 1}, upTo(m+1)...), api.ErrFull},
		{chars([]int{m, 2}, -5), api.ErrFull},
		{api.Array{}, api.ErrLength},
		{chars(nil), api.ErrLength},
		{nums(nil, 1, 2), api.ErrLength},
		{nums([]int{0}, 1), api.ErrLength},
		{nums([]int{2}, 1), api.ErrLength},
		{nums([]int{2}, 1, 2, 3), api.ErrLength},
		{chars([]int{1}, 55296), api.ErrDomain},
		{chars(nil, -1), api.ErrDomain},
	}
}

// counted is an array of that shape, no two of whose cells are the same.
func counted(s []int) api.Array {
	count, _ := shape.Count(s)
	data := upTo(count)
	for i := range data {
		data[i] = 3*i + 100
	}
	return nums(s, data...)
}

// asChars is the same array as one of characters.
func asChars(a api.Array) api.Array { return api.Array{Char: true, Shape: a.Shape, Data: a.Data} }

// all are for each axis its indices in order.
func all(s []int) []api.Array {
	var indices []api.Array
	for _, length := range s {
		indices = append(indices, line(upTo(length)...))
	}
	return indices
}

// scattered are indices of an axis on axes of their own: out of order, and, where
// there are more than the axis is long, some more than once.
func scattered(s []int, length int) api.Array {
	count, _ := shape.Count(s)
	data := make([]int, count)
	for i := range data {
		data[i] = (5*i + 2 + i*i) % length
	}
	return nums(s, data...)
}

// some is an array, and indices of it.
type some struct {
	a  api.Array
	by []api.Array
}

// picks are arrays of each number of axes with indices of each number of axes
// that they may have, none too many.
func picks() []some {
	m := api.MaxCells
	var list []some
	for _, c := range []struct {
		s  []int
		of [][]int // the shapes of the indices
	}{
		{nil, nil},
		{[]int{4}, [][]int{nil}},
		{[]int{4}, [][]int{{0}}},
		{[]int{4}, [][]int{{1}}},
		{[]int{4}, [][]int{{9}}},
		{[]int{1}, [][]int{{m}}},
		{[]int{m}, [][]int{{m}}},
		{[]int{m}, [][]int{{64, 64}}},
		{[]int{7}, [][]int{{2, 0, 3}}},
		{[]int{7}, [][]int{{2, 1, 3, 1, 2, 2}}},
		{[]int{7}, [][]int{{0, m, m, m, m, m}}},
		{[]int{2, 3}, [][]int{nil, nil}},
		{[]int{2, 3}, [][]int{nil, {4}}},
		{[]int{2, 3}, [][]int{{4}, nil}},
		{[]int{2, 3}, [][]int{{4}, {5}}},
		{[]int{3, 2}, [][]int{{2, 3}, {4}}},
		{[]int{5, 3}, [][]int{{2, 1, 3}, {3, 1, 2}}},
		{[]int{64, 64}, [][]int{{64}, {8, 8}}},
		{[]int{64, 64}, [][]int{{0}, {m}}},
		{[]int{64, 64}, [][]int{{m}, {0}}},
		{[]int{2, 3, 4}, [][]int{{2}, nil, {3}}},
		{[]int{2, 3, 4}, [][]int{nil, {2, 2}, {3}}},
		{[]int{4, 3, 2}, [][]int{{1, 2}, {2, 1}, {3, 2}}},
		{[]int{2, 3, 4, 5}, [][]int{nil, nil, nil, nil}},
		{[]int{5, 4, 3, 2}, [][]int{{2}, {3, 2}, nil, {4}}},
		{[]int{2, 3, 1, 2, 3}, [][]int{{3}, {2}, {1}, {2}, {2}}},
		{[]int{2, 3, 4, 2, 3, 4}, [][]int{{3}, {2}, {3}, {2}, {3}, {2}}},
		{[]int{2, 3, 4, 2, 3, 4}, [][]int{nil, {3, 1, 2}, nil, nil, {2, 3, 1}, nil}},
		{[]int{1, 2, 1, 2, 1, 2}, [][]int{{m}, {m}, {m}, {m}, {m}, {0}}},
		{[]int{1, 2, 1, 2, 1, 2}, [][]int{{0}, {m}, {m}, {m}, {m}, {m}}},
	} {
		var by []api.Array
		for axis, s := range c.of {
			by = append(by, scattered(s, c.s[axis]))
		}
		list = append(list, some{counted(c.s), by})
	}
	return append(list,
		some{nums([]int{0}), by(line())},
		some{nums([]int{0, 3}), by(line(), line(2, 0))},
		some{nums([]int{3, 0}), by(line(1, 1), nums([]int{2, 0, 2}))},
		some{nums([]int{m, 0, m}), by(nums(nil, m-1), line(), nums(nil, m-1))},
	)
}

// toldShape is the shape of the first one, and behind it of the next one, and so on.
func toldShape(by []api.Array) []int {
	var s []int
	for _, indices := range by {
		s = append(s, indices.Shape...)
	}
	return s
}

// toldPlaces are by the words of chapter 1 the places of s whose cells are told:
// the indices of a told cell belong, in order, to each of by, and those have the
// indices of s there.
func toldPlaces(s []int, by []api.Array) []int {
	told := toldShape(by)
	count, _ := shape.Count(told)
	var places []int
	for k := range count {
		at, _ := shape.At(told, k)
		of := make([]int, len(by))
		for axis, indices := range by {
			axes := len(indices.Shape)
			place, _ := shape.Place(indices.Shape, at[:axes])
			of[axis] = indices.Data[place]
			at = at[axes:]
		}
		place, _ := shape.Place(s, of)
		places = append(places, place)
	}
	return places
}

// PI1: the shape of the indices, and the cells that they have.
func TestAtTells(t *testing.T) {
	m := api.MaxCells
	three := line(7, 8, 9)
	six := nums([]int{2, 3}, 1, 2, 3, 4, 5, 6)
	for _, c := range []struct {
		a    api.Array
		by   []api.Array
		want api.Array
	}{
		{nums(nil, 7), nil, nums(nil, 7)},
		{nums([]int{}, api.Least), by(), nums(nil, api.Least)},
		{chars(nil, 969), nil, chars(nil, 969)},
		{three, by(nums(nil, 1)), nums(nil, 8)},
		{three, by(line(1)), line(8)},
		{three, by(line(2, 0, 2, 2)), line(9, 7, 9, 9)},
		{three, by(line()), line()},
		{three, by(nums([]int{2, 0})), nums([]int{2, 0})},
		{three, by(nums([]int{2, 2}, 0, 1, 2, 0)), nums([]int{2, 2}, 7, 8, 9, 7)},
		{three, by(nums([]int{1, 1, 1, 1, 1, 1}, 2)), nums([]int{1, 1, 1, 1, 1, 1}, 9)},
		{three, by(line(make([]int, m)...)), line(slices.Repeat([]int{7}, m)...)},
		{chars([]int{2}, 97, 969), by(line(1, 0, 1)), chars([]int{3}, 969, 97, 969)},
		{chars([]int{2}, 97, 969), by(line()), chars([]int{0})},
		{six, by(nums(nil, 1), nums(nil, 2)), nums(nil, 6)},
		{six, by(nums(nil, 1), line(2, 0)), line(6, 4)},
		{six, by(line(1, 0), nums(nil, 2)), line(6, 3)},
		{six, by(line(1, 0), line(2, 0)), nums([]int{2, 2}, 6, 4, 3, 1)},
		{six, by(line(1), line(0, 1, 2)), nums([]int{1, 3}, 4, 5, 6)},
		{six, by(line(0, 0, 1), line(1)), nums([]int{3, 1}, 2, 2, 5)},
		{six, by(line(), line(0, 1, 2)), nums([]int{0, 3})},
		{six, by(line(1), line()), nums([]int{1, 0})},
		{six, by(nums([]int{1, 2}, 1, 0), line(2, 1)), nums([]int{1, 2, 2}, 6, 5, 3, 2)},
		{six, by(line(1), nums([]int{2, 2}, 2, 1, 0, 2)), nums([]int{1, 2, 2}, 6, 5, 4, 6)},
		{nums([]int{2, 2}, 1, 2, 3, 4), by(line(1), nums(nil, 0)), line(3)},
		{nums([]int{0}), by(line()), line()},
		{nums([]int{0, 3}), by(line(), nums(nil, 2)), line()},
		{line(api.Least, api.Greatest), by(line(1, 0)), line(api.Greatest, api.Least)},
		{nums([]int{1, 1, 1, 1, 1, 1}, 5), slices.Repeat(by(nums(nil, 0)), 6), nums(nil, 5)},
		{nums([]int{1, 1, 1, 1, 1, 1}, 5), slices.Repeat(by(line(0)), 6), nums([]int{1, 1, 1, 1, 1, 1}, 5)},
	} {
		got, err := At(c.a, c.by)
		wantArray(t, got, err, c.want)
	}
}

// PI1: by its words, at all indices of each number of axes.
func TestAtByItsWords(t *testing.T) {
	for _, c := range picks() {
		var data []int
		for _, place := range toldPlaces(c.a.Shape, c.by) {
			data = append(data, c.a.Data[place])
		}
		want := nums(toldShape(c.by), data...)
		got, err := At(c.a, c.by)
		wantArray(t, got, err, want)
		got, err = At(asChars(c.a), c.by)
		wantArray(t, got, err, asChars(want))
	}
}

// PI1: all indices in order tell the array itself, and in other orders what
// other layers tell of it.
func TestAtIsOtherLayers(t *testing.T) {
	for _, c := range picks() {
		a := c.a
		got, err := At(a, all(a.Shape))
		wantArray(t, got, err, a)
		for axis, length := range a.Shape {
			indices := all(a.Shape)
			slices.Reverse(indices[axis].Data)
			want, _ := turn.Reverse(axis, a)
			got, err = At(a, indices)
			wantArray(t, got, err, want)

			n := slices.Clone(a.Shape)
			n[axis] = length / 2
			indices = all(n)
			want, _ = cut.Take(n, a)
			got, err = At(a, indices)
			wantArray(t, got, err, want)
		}
	}
}

// refusal is an array with indices that are none of it, and what is told.
type refusal struct {
	a    api.Array
	by   []api.Array
	want api.Errno
}

// refusals have each of At's errors ahead of those that are named behind it.
func refusals() []refusal {
	m := api.MaxCells
	three := line(7, 8, 9)
	six := nums([]int{2, 3}, 1, 2, 3, 4, 5, 6)
	ones := nums([]int{1, 1, 1, 1, 1, 1}, 5)
	whole := line(make([]int, m)...)
	return []refusal{
		{nums(nil, 7), by(nums(nil, 0)), api.ErrRank},
		{nums(nil, 7), by(line()), api.ErrRank},
		{three, nil, api.ErrRank},
		{three, by(line(0), line(0)), api.ErrRank},
		{three, by(chars(nil, 97), whole), api.ErrRank},
		{six, by(line(0)), api.ErrRank},
		{six, by(line(9)), api.ErrRank},
		{six, by(chars(nil, 97)), api.ErrRank},
		{six, by(line(0), line(0), line(0)), api.ErrRank},
		{six, by(whole, whole, whole), api.ErrRank},
		{nums([]int{0}), nil, api.ErrRank},
		{ones, slices.Repeat(by(line(0)), 7), api.ErrRank},
		{three, slices.Repeat(by(whole), 1000), api.ErrRank},
		{three, by(chars(nil, 1)), api.ErrDomain},
		{three, by(chars([]int{0})), api.ErrDomain},
		{three, by(chars([]int{2}, 0, 97)), api.ErrDomain},
		{six, by(line(0), chars([]int{1}, 1)), api.ErrDomain},
		{six, by(chars([]int{1}, 1), line(0)), api.ErrDomain},
		{six, by(line(9), chars([]int{1}, 1)), api.ErrDomain},
		{six, by(nums([]int{1, 1, 1, 1, 1, 1}, 0), chars([]int{1}, 1)), api.ErrDomain},
		{six, by(whole, chars([]int{2}, 1, 1)), api.ErrDomain},
		{six, by(nums([]int{1, 1, 1, 1, 1, 1}, 0), line(0)), api.ErrRank},
		{six, by(line(0), nums([]int{1, 1, 1, 1, 1, 1}, 0)), api.ErrRank},
		{six, by(nums([]int{1, 1, 1, 0}), nums([]int{1, 1, 1}, 0)), api.ErrRank},
		{six, by(nums([]int{1, 1, 1, 1}, 9), nums([]int{1, 1, 1}, -1)), api.ErrRank},
		{six, by(nums([]int{m, 1, 1, 1}, whole.Data...), nums([]int{2, 1, 1}, 0, 0)), api.ErrRank},
		{ones, slices.Repeat(by(nums([]int{1, 1}, 0)), 6), api.ErrRank},
		{ones, slices.Repeat(by(nums([]int{1, 1, 1, 1, 1, 1}, 0)), 6), api.ErrRank},
		{six, by(whole, line(0, 0)), api.ErrFull},
		{six, by(line(0, 0), whole), api.ErrFull},
		{six, by(line(0, 9), whole), api.ErrFull},
		{six, by(whole, whole), api.ErrFull},
		{six, by(line(make([]int, 65)...), nums([]int{8, 8}, make([]int, 64)...)), api.ErrFull},
		{ones, slices.Repeat(by(whole), 6), api.ErrFull},
		{three, by(line(3)), api.ErrIndex},
		{three, by(nums(nil, 3)), api.ErrIndex},
		{three, by(line(-1)), api.ErrIndex},
		{three, by(line(0, 1, 2, 3)), api.ErrIndex},
		{three, by(line(-1, 0, 1)), api.ErrIndex},
		{three, by(line(0, api.Least)), api.ErrIndex},
		{three, by(line(api.Greatest, 0)), api.ErrIndex},
		{three, by(line(1<<32, 0)), api.ErrIndex},
		{three, by(nums([]int{2, 2}, 0, 1, 3, 2)), api.ErrIndex},
		{six, by(line(2), line(0)), api.ErrIndex},
		{six, by(line(0), line(3)), api.ErrIndex},
		{six, by(line(0), line(-3)), api.ErrIndex},
		{six, by(line(-1), line(5)), api.ErrIndex},
		{six, by(line(1), line(-1)), api.ErrIndex},
		{six, by(line(), line(3)), api.ErrIndex},
		{six, by(line(2), line()), api.ErrIndex},
		{six, by(line(), line(0, 1, -1)), api.ErrIndex},
		{nums([]int{0}), by(line(0)), api.ErrIndex},
		{nums([]int{0}), by(nums(nil, 0)), api.ErrIndex},
		{nums([]int{3, 0}), by(line(3), line()), api.ErrIndex},
		{nums([]int{3, 0}), by(line(), line(0)), api.ErrIndex},
		{ones, append(slices.Repeat(by(nums(nil, 0)), 5), nums(nil, 1)), api.ErrIndex},
	}
}

// PI1: its errors, each ahead of those that are named behind it.
func TestAtRefuses(t *testing.T) {
	for _, c := range refusals() {
		got, err := At(c.a, c.by)
		wantError(t, got, err, c.want)
		got, err = At(asChars(c.a), c.by)
		wantError(t, got, err, c.want)
	}
}

// PI1: Check's errors come ahead of all others: a's, then those of by, in order.
func TestAtRefusesArrays(t *testing.T) {
	three := line(7, 8, 9)
	for _, w := range wrongArrays() {
		for _, indices := range [][]api.Array{nil, by(line(0)), by(line(9)), by(chars(nil, 97))} {
			got, err := At(w.a, indices)
			wantError(t, got, err, w.want)
			got, err = At(three, append(slices.Clone(indices), w.a))
			wantError(t, got, err, w.want)
			got, err = At(three, append(by(w.a), indices...))
			wantError(t, got, err, w.want)
		}
		for _, other := range wrongArrays() {
			got, err := At(w.a, by(other.a))
			wantError(t, got, err, w.want)
			got, err = At(three, by(line(0), w.a, other.a))
			wantError(t, got, err, w.want)
		}
	}
}

// PI2: other cells at the indices, the last ones of v where one is told more
// than once, and the same one at all of them where v has no axes.
func TestPutTells(t *testing.T) {
	m := api.MaxCells
	three := line(7, 8, 9)
	six := nums([]int{2, 3}, 1, 2, 3, 4, 5, 6)
	for _, c := range []struct {
		a       api.Array
		by      []api.Array
		v, want api.Array
	}{
		{nums(nil, 7), nil, nums(nil, 1), nums(nil, 1)},
		{chars([]int{}, 97), by(), chars(nil, 969), chars(nil, 969)},
		{three, by(nums(nil, 1)), nums(nil, 0), line(7, 0, 9)},
		{three, by(line(1)), line(0), line(7, 0, 9)},
		{three, by(line(2, 0)), line(1, 2), line(2, 8, 1)},
		{three, by(line(2, 0)), nums(nil, 1), line(1, 8, 1)},
		{three, by(line(1, 1)), line(4, 5), line(7, 5, 9)},
		{three, by(line(0, 1, 0, 1)), line(1, 2, 3, 4), line(3, 4, 9)},
		{three, by(line()), line(), three},
		{three, by(line()), nums(nil, 1), three},
		{three, by(nums([]int{0, 2})), nums([]int{0, 2}), three},
		{three, by(nums([]int{2, 2}, 0, 1, 2, 0)), nums([]int{2, 2}, 1, 2, 3, 4), line(4, 2, 3)},
		{three, by(nums([]int{1, 1, 1, 1, 1, 1}, 2)), nums([]int{1, 1, 1, 1, 1, 1}, 0), line(7, 8, 0)},
		{three, by(line(make([]int, m)...)), line(upTo(m)...), line(m-1, 8, 9)},
		{three, by(line(make([]int, m)...)), nums(nil, 5), line(5, 8, 9)},
		{chars([]int{2}, 97, 98), by(line(1)), chars([]int{1}, 969), chars([]int{2}, 97, 969)},
		{chars([]int{2}, 97, 98), by(line(1, 0)), chars(nil, 32), chars([]int{2}, 32, 32)},
		{six, by(nums(nil, 1), nums(nil, 2)), nums(nil, 0), nums([]int{2, 3}, 1, 2, 3, 4, 5, 0)},
		{six, by(nums(nil, 1), line(2, 0)), line(7, 8), nums([]int{2, 3}, 1, 2, 3, 8, 5, 7)},
		{six, by(line(1, 0), nums(nil, 2)), line(7, 8), nums([]int{2, 3}, 1, 2, 8, 4, 5, 7)},
		{six, by(line(1, 0), line(2, 0)), nums([]int{2, 2}, 7, 8, 9, 0), nums([]int{2, 3}, 0, 2, 9, 8, 5, 7)},
		{six, by(line(0, 1), line(1)), nums(nil, 0), nums([]int{2, 3}, 1, 0, 3, 4, 0, 6)},
		{six, by(line(0, 0), line(1, 1)), nums([]int{2, 2}, 7, 8, 9, 0), nums([]int{2, 3}, 1, 0, 3, 4, 5, 6)},
		{six, by(line(), line(0, 1)), nums([]int{0, 2}), six},
		{six, by(line(0), line()), nums([]int{1, 0}), six},
		{nums([]int{0}), by(line()), line(), line()},
		{nums([]int{0, 3}), by(line(), nums(nil, 2)), nums(nil, 1), nums([]int{0, 3})},
		{line(1, 2), by(line(1, 0)), line(api.Least, api.Greatest), line(api.Greatest, api.Least)},
		{nums([]int{1, 1, 1, 1, 1, 1}, 5), slices.Repeat(by(nums(nil, 0)), 6), nums(nil, 6), nums([]int{1, 1, 1, 1, 1, 1}, 6)},
	} {
		got, err := Put(c.a, c.by, c.v)
		wantArray(t, got, err, c.want)
	}
}

// others is an array of what At tells at indices, with cells that counted has not.
func others(by []api.Array) api.Array {
	v := counted(toldShape(by))
	for i := range v.Data {
		v.Data[i]++
	}
	return v
}

// PI2: by its words, at all indices of each number of axes, with an array of
// cells and with one cell at all of them.
func TestPutByItsWords(t *testing.T) {
	for _, c := range picks() {
		v, single := others(c.by), nums(nil, 2)
		want, filled := slices.Clone(c.a.Data), slices.Clone(c.a.Data)
		for k, place := range toldPlaces(c.a.Shape, c.by) {
			want[place] = v.Data[k]
			filled[place] = 2
		}
		putBoth(t, c, v, nums(c.a.Shape, want...))
		putBoth(t, c, single, nums(c.a.Shape, filled...))
	}
}

// putBoth holds Put against what should be, with numbers and with characters.
func putBoth(t *testing.T, c some, v, want api.Array) {
	t.Helper()
	got, err := Put(c.a, c.by, v)
	wantArray(t, got, err, want)
	got, err = Put(asChars(c.a), c.by, asChars(v))
	wantArray(t, got, err, asChars(want))
}

// PI2: what is told there is put there again without any change; what is put
// last stays; and what is put is told, where no cell is told more than once.
func TestPutAndAtAreALens(t *testing.T) {
	for _, c := range picks() {
		v := others(c.by)
		told, _ := At(c.a, c.by)
		again, err := Put(c.a, c.by, told)
		wantArray(t, again, err, c.a)

		once, _ := Put(c.a, c.by, v)
		other, _ := Put(c.a, c.by, nums(nil, 2))
		twice, err := Put(other, c.by, v)
		wantArray(t, twice, err, once)

		places := toldPlaces(c.a.Shape, c.by)
		slices.Sort(places)
		if len(slices.Compact(slices.Clone(places))) == len(places) {
			told, err = At(once, c.by)
			wantArray(t, told, err, v)
		}
	}
}

// PI2: At's errors, ahead of those of a v that does not fit.
func TestPutRefusesIndices(t *testing.T) {
	for _, c := range refusals() {
		for _, v := range []api.Array{nums(nil, 1), chars(nil, 97), line(1), line(), nums([]int{2, 2}, 1, 2, 3, 4), chars([]int{0})} {
			got, err := Put(c.a, c.by, v)
			wantError(t, got, err, c.want)
			got, err = Put(asChars(c.a), c.by, v)
			wantError(t, got, err, c.want)
		}
	}
}

// PI2: the errors of v, each ahead of those that are named behind it.
func TestPutRefusesValues(t *testing.T) {
	three := line(7, 8, 9)
	six := nums([]int{2, 3}, 1, 2, 3, 4, 5, 6)
	for _, c := range []struct {
		a    api.Array
		by   []api.Array
		v    api.Array
		want api.Errno
	}{
		{nums(nil, 7), nil, chars(nil, 7), api.ErrDomain},
		{three, by(line(0)), chars(nil, 7), api.ErrDomain},
		{three, by(line(0)), chars([]int{1}, 7), api.ErrDomain},
		{asChars(three), by(line(0)), line(7), api.ErrDomain},
		{asChars(three), by(line(0)), nums(nil, 7), api.ErrDomain},
		{three, by(line()), chars([]int{0}), api.ErrDomain},
		{three, by(line()), chars(nil, 7), api.ErrDomain},
		{chars([]int{0}), by(line()), line(), api.ErrDomain},
		{three, by(line(0)), chars([]int{1, 1}, 7), api.ErrDomain},
		{three, by(line(0)), chars([]int{2}, 7, 7), api.ErrDomain},
		{nums(nil, 7), nil, line(7), api.ErrRank},
		{nums(nil, 7), nil, line(), api.ErrRank},
		{three, by(nums(nil, 0)), line(7), api.ErrRank},
		{three, by(line(0)), nums([]int{1, 1}, 7), api.ErrRank},
		{three, by(line(0, 1)), nums([]int{1, 2}, 7, 8), api.ErrRank},
		{three, by(line(0, 1)), nums([]int{3, 3}, upTo(9)...), api.ErrRank},
		{three, by(line()), nums([]int{0, 0}), api.ErrRank},
		{six, by(line(0), nums(nil, 0)), nums([]int{1, 1}, 7), api.ErrRank},
		{six, by(line(0), line(0)), line(7), api.ErrRank},
		{six, by(line(0, 1), line(0, 1)), line(1, 2, 3, 4), api.ErrRank},
		{three, by(line(0, 1)), line(7), api.ErrLength},
		{three, by(line(0, 1)), line(7, 8, 9), api.ErrLength},
		{three, by(line(0, 1)), line(), api.ErrLength},
		{three, by(line()), line(7), api.ErrLength},
		{six, by(line(0, 1), line(0, 1, 2)), nums([]int{3, 2}, 1, 2, 3, 4, 5, 6), api.ErrLength},
		{six, by(line(0, 1), line(0, 1)), nums([]int{2, 1}, 1, 2), api.ErrLength},
		{six, by(line(0, 1), line(0, 1)), nums([]int{1, 2}, 1, 2), api.ErrLength},
		{six, by(line(0, 1), line(0, 1)), nums([]int{1, 4}, 1, 2, 3, 4), api.ErrLength},
		{six, by(line(), line(0, 1)), nums([]int{0, 3}), api.ErrLength},
		{six, by(line(), line(0, 1)), nums([]int{2, 0}), api.ErrLength},
		{asChars(three), by(line(0, 1)), chars([]int{1}, 7), api.ErrLength},
	} {
		got, err := Put(c.a, c.by, c.v)
		wantError(t, got, err, c.want)
	}
}

// PI2: Check's errors come ahead of all others: a's, then those of by, then v's.
func TestPutRefusesArrays(t *testing.T) {
	three, right := line(7, 8, 9), line(0)
	for _, w := range wrongArrays() {
		for _, indices := range [][]api.Array{nil, by(right), by(line(9)), by(chars(nil, 97)), by(right, right)} {
			for _, v := range []api.Array{right, chars(nil, 97), line(1, 2)} {
				got, err := Put(w.a, indices, v)
				wantError(t, got, err, w.want)
				got, err = Put(three, append(slices.Clone(indices), w.a), v)
				wantError(t, got, err, w.want)
			}
			got, err := Put(three, indices, w.a)
			wantError(t, got, err, w.want)
		}
		for _, other := range wrongArrays() {
			got, err := Put(w.a, by(other.a), other.a)
			wantError(t, got, err, w.want)
			got, err = Put(w.a, by(right), other.a)
			wantError(t, got, err, w.want)
			got, err = Put(three, by(right, w.a, other.a), other.a)
			wantError(t, got, err, w.want)
		}
	}
}

// spoil writes over all memory that an array hands out.
func spoil(a api.Array) {
	for _, list := range [][]int{a.Shape[:cap(a.Shape)], a.Data[:cap(a.Data)]} {
		for i := range list {
			list[i] = -9
		}
	}
}

// P2, P4: what is handed in stays as it is, behind its length too, and what
// comes out is fresh memory, also where no cell is told and none is put.
func TestListsAreNeitherWrittenNorShared(t *testing.T) {
	shapeBack, dataBack, byBack := []int{2, 2, -8}, []int{3, 1, 2, 0, -9}, []int{1, 0, -7}
	a := nums(shapeBack[:2], dataBack[:4]...)
	two := nums(shapeBack[:1], dataBack[:2]...)
	single := nums(shapeBack[:0], dataBack[:1]...)
	none := nums(dataBack[3:4], dataBack[:0]...)
	one := nums(byBack[:0], byBack[:1]...)
	both := nums(shapeBack[:1], byBack[:2]...)
	list := by(both, both, api.Array{Data: []int{-6}})
	for k, call := range []func() (api.Array, error){
		func() (api.Array, error) { return At(a, list[:2]) },
		func() (api.Array, error) { return At(a, by(one, both)) },
		func() (api.Array, error) { return At(two, list[:1]) },
		func() (api.Array, error) { return At(two, by(one)) },
		func() (api.Array, error) { return At(two, by(none)) },
		func() (api.Array, error) { return At(single, list[:0]) },
		func() (api.Array, error) { return At(none, by(none)) },
		func() (api.Array, error) { return Put(a, list[:2], a) },
		func() (api.Array, error) { return Put(a, by(one, both), two) },
		func() (api.Array, error) { return Put(a, list[:2], single) },
		func() (api.Array, error) { return Put(two, list[:1], two) },
		func() (api.Array, error) { return Put(two, by(none), none) },
		func() (api.Array, error) { return Put(single, list[:0], one) },
		func() (api.Array, error) { return Put(none, by(none), none) },
	} {
		first, err := call()
		if err != nil {
			t.Fatal(err)
		}
		kept := nums(slices.Clone(first.Shape), slices.Clone(first.Data)...)
		spoil(api.Array{Shape: first.Shape})
		if !slices.Equal(first.Data, kept.Data) {
			t.Errorf("call %d: its two lists share memory", k)
		}
		spoil(first)
		again, err := call()
		wantArray(t, again, err, kept)
	}
	if !slices.Equal(shapeBack, []int{2, 2, -8}) || !slices.Equal(dataBack, []int{3, 1, 2, 0, -9}) ||
		!slices.Equal(byBack, []int{1, 0, -7}) {
		t.Errorf("written into: %v, %v, %v", shapeBack, dataBack, byBack)
	}
	if !same(list[0], both) || !same(list[1], both) || !same(list[2], api.Array{Data: []int{-6}}) {
		t.Errorf("written into: %v", list)
	}
}
