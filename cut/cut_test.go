package cut

import (
	"slices"
	"testing"

	"ravelin/api"
	"ravelin/plain"
	"ravelin/shape"
)

// nums and chars are arrays, written short.
func nums(s []int, data ...int) api.Array { return api.Array{Shape: s, Data: data} }

func chars(s []int, data ...int) api.Array { return api.Array{Char: true, Shape: s, Data: data} }

// upTo are the numbers from 0 to below n.
func upTo(n int) []int {
	var all []int
	for i := range n {
		all = append(all, i)
	}
	return all
}

func same(a, b api.Array) bool {
	return a.Char == b.Char && slices.Equal(a.Shape, b.Shape) && slices.Equal(a.Data, b.Data)
}

func brief(a api.Array) (bool, []int, []int) {
	return a.Char, a.Shape, a.Data[:min(len(a.Data), 20)]
}

// wantArray holds what is told against what should be.
func wantArray(t *testing.T, got api.Array, err error, want api.Array) {
	t.Helper()
	if !same(got, want) || err != nil {
		gc, gs, gd := brief(got)
		wc, ws, wd := brief(want)
		t.Errorf("got %v %v %v, %v, want %v %v %v", gc, gs, gd, err, wc, ws, wd)
	}
}

// wantError holds what is told with an error against what should be.
func wantError(t *testing.T, got api.Array, err error, want api.Errno) {
	t.Helper()
	if !same(got, api.Array{}) || plain.Told(err) != want {
		c, s, d := brief(got)
		t.Errorf("got %v %v %v, %v, want nothing, %v", c, s, d, err, want)
	}
}

// wrong is an array with a fault, and what Check tells of it.
type wrong struct {
	a    api.Array
	want api.Errno
}

func wrongArrays() []wrong {
	m := api.MaxCells
	return []wrong{
		{nums([]int{1, 1, 1, 1, 1, 1, 1}, 5), api.ErrRank},
		{chars([]int{1, 1, 1, 1, 1, 1, -1}, -5), api.ErrRank},
		{nums([]int{-1}), api.ErrLength},
		{nums([]int{m + 1}, upTo(m+1)...), api.ErrFull},
		{chars([]int{m, 2}, -5), api.ErrFull},
		{api.Array{}, api.ErrLength},
		{chars(nil), api.ErrLength},
		{nums(nil, 1, 2), api.ErrLength},
		{nums([]int{0}, 1), api.ErrLength},
		{nums([]int{2}, 1), api.ErrLength},
		{nums([]int{2}, 1, 2, 3), api.ErrLength},
		{nums([]int{2, 3}, 1, 2, 3, 4, 5), api.ErrLength},
		{chars([]int{1}, 55296), api.ErrDomain},
		{chars([]int{2, 1}, 97, 1114112), api.ErrDomain},
		{chars(nil, -1), api.ErrDomain},
	}
}

// shapes are some of each number of axes, without cells and with the most.
func shapes() [][]int {
	m := api.MaxCells
	return [][]int{
		nil, {0}, {1}, {2}, {7}, {m},
		{0, 3}, {3, 0}, {1, 5}, {5, 1}, {2, 3}, {4, 4}, {64, 64}, {m, 1}, {m, 0},
		{2, 3, 4}, {4, 1, 3}, {3, 0, 2}, {0, m, m}, {16, 16, 16},
		{2, 1, 3, 4}, {5, 4, 3, 2},
		{2, 3, 1, 2, 3}, {1, 1, 1, 1, 0},
		{4, 4, 4, 4, 4, 4}, {1, 2, 3, 4, 2, 3}, {0, m, m, m, m, m}, {m, m, m, m, m, 0},
	}
}

// counted is an array of that shape, no two of whose cells are the same.
func counted(s []int) api.Array {
	count, _ := shape.Count(s)
	data := upTo(count)
	for i := range data {
		data[i] = 3*i + 100
	}
	return nums(s, data...)
}

// asChars is the same array as one of characters.
func asChars(a api.Array) api.Array { return api.Array{Char: true, Shape: a.Shape, Data: a.Data} }

// found is an array of the shape s, at whose indices stands the cell that from
// tells of them, or a fill where it tells none; indices by the words of chapter 1.
func found(char bool, s []int, from func(at []int) (int, bool)) api.Array {
	count, _ := shape.Count(s)
	data := make([]int, count)
	for place := range data {
		at, _ := shape.At(s, place)
		c, is := from(at)
		if !is {
			c = 0
			if char {
				c = ' '
			}
		}
		data[place] = c
	}
	return api.Array{Char: char, Shape: s, Data: data}
}

// cellAt is the cell of a at indices, if it has one there.
func cellAt(a api.Array, at []int) (int, bool) {
	place, err := shape.Place(a.Shape, at)
	if err != nil {
		return 0, false
	}
	return a.Data[place], true
}

// changed is a list with another number at one place.
func changed(list []int, k, n int) []int {
	other := slices.Clone(list)
	other[k] = n
	return other
}

// ways hands f each list of numbers of which the first is one of the first
// choices, the second one of the second, and so on.
func ways(choices [][]int, f func([]int)) {
	if len(choices) == 0 {
		f(nil)
		return
	}
	ways(choices[1:], func(rest []int) {
		for _, n := range choices[0] {
			f(append([]int{n}, rest...))
		}
	})
}

// masks hands f each mask of a length.
func masks(length int, f func([]int)) {
	choices := make([][]int, length)
	for k := range choices {
		choices[k] = []int{0, 1}
	}
	ways(choices, f)
}

// ends are numbers to take or drop, on the axes of a shape: some on each side
// of each length, fewer of them where there are many axes.
func ends(s []int) [][]int {
	choices := make([][]int, len(s))
	for axis, length := range s {
		choices[axis] = []int{0, length - 1, -length - 1}
		if len(s) < 5 {
			choices[axis] = append(choices[axis], 1, -1, length, -length, 1-length, length+1, 2, -2)
		}
	}
	return choices
}

// smallShapes are those of shapes that leave room on each axis.
func smallShapes() [][]int {
	var small [][]int
	for _, s := range shapes() {
		if !slices.ContainsFunc(s, func(length int) bool { return length > 16 }) {
			small = append(small, s)
		}
	}
	return small
}

// noAxes are numbers of no axis, where there are so many.
func noAxes(axes int) []int {
	return []int{-1, axes, axes + 1, -axes - 1, api.MaxRank, api.Least, api.Greatest}
}

// CU1: the first ones, or the last ones, and fills where there are not as many.
func TestTakeTells(t *testing.T) {
	m := api.MaxCells
	six := nums([]int{2, 3}, 1, 2, 3, 4, 5, 6)
	for _, c := range []struct {
		n       []int
		a, want api.Array
	}{
		{[]int{2}, nums([]int{3}, 1, 2, 3), nums([]int{2}, 1, 2)},
		{[]int{-2}, nums([]int{3}, 1, 2, 3), nums([]int{2}, 2, 3)},
		{[]int{3}, nums([]int{3}, 1, 2, 3), nums([]int{3}, 1, 2, 3)},
		{[]int{-3}, nums([]int{3}, 1, 2, 3), nums([]int{3}, 1, 2, 3)},
		{[]int{5}, nums([]int{3}, 1, 2, 3), nums([]int{5}, 1, 2, 3, 0, 0)},
		{[]int{-5}, nums([]int{3}, 1, 2, 3), nums([]int{5}, 0, 0, 1, 2, 3)},
		{[]int{0}, nums([]int{3}, 1, 2, 3), nums([]int{0})},
		{[]int{2}, nums([]int{0}), nums([]int{2}, 0, 0)},
		{[]int{-2}, nums([]int{0}), nums([]int{2}, 0, 0)},
		{[]int{4}, chars([]int{2}, 97, 969), chars([]int{4}, 97, 969, 32, 32)},
		{[]int{-4}, chars([]int{2}, 97, 969), chars([]int{4}, 32, 32, 97, 969)},
		{[]int{1}, chars([]int{0}), chars([]int{1}, 32)},
		{[]int{0}, chars([]int{1}, 97), chars([]int{0})},
		{nil, nums(nil, 7), nums(nil, 7)},
		{[]int{}, chars(nil, 97), chars(nil, 97)},
		{[]int{1, 2}, six, nums([]int{1, 2}, 1, 2)},
		{[]int{-1, 2}, six, nums([]int{1, 2}, 4, 5)},
		{[]int{1, -2}, six, nums([]int{1, 2}, 2, 3)},
		{[]int{3, 4}, six, nums([]int{3, 4}, 1, 2, 3, 0, 4, 5, 6, 0, 0, 0, 0, 0)},
		{[]int{-3, 4}, six, nums([]int{3, 4}, 0, 0, 0, 0, 1, 2, 3, 0, 4, 5, 6, 0)},
		{[]int{3, -4}, six, nums([]int{3, 4}, 0, 1, 2, 3, 0, 4, 5, 6, 0, 0, 0, 0)},
		{[]int{1, -4}, six, nums([]int{1, 4}, 0, 1, 2, 3)},
		{[]int{2, 2}, nums([]int{0, 2}), nums([]int{2, 2}, 0, 0, 0, 0)},
		{[]int{1}, nums([]int{2}, api.Least, api.Greatest), nums([]int{1}, api.Least)},
		{[]int{m}, nums([]int{1}, 7), nums([]int{m}, append([]int{7}, make([]int, m-1)...)...)},
		{[]int{-m}, nums([]int{1}, 7), nums([]int{m}, append(make([]int, m-1), 7)...)},
		{[]int{0, m, -m}, nums([]int{1, 1, 1}, 7), nums([]int{0, m, m})},
		{[]int{-m, m, m, m, m, 0}, nums([]int{1, 1, 1, 1, 1, 1}, 7), nums([]int{m, m, m, m, m, 0})},
		{[]int{1, -1, 1, -1, 1, 1}, nums([]int{0, m, m, m, m, m}), nums([]int{1, 1, 1, 1, 1, 1}, 0)},
		{[]int{-1, 1, 1, 1, 1, -1}, chars([]int{m, m, m, m, m, 0}), chars([]int{1, 1, 1, 1, 1, 1}, 32)},
	} {
		got, err := Take(c.n, c.a)
		wantArray(t, got, err, c.want)
	}
}

// taken is Take by its words: where n is below 0, an axis ends where it ended.
func taken(n []int, a api.Array) api.Array {
	s := make([]int, len(n))
	for axis := range n {
		s[axis] = max(n[axis], -n[axis])
	}
	return found(a.Char, s, func(at []int) (int, bool) {
		for axis := range at {
			if n[axis] < 0 {
				at[axis] += a.Shape[axis] - s[axis]
			}
		}
		return cellAt(a, at)
	})
}

// CU1: by numbers on each side of the lengths of each shape, numbers and
// characters.
func TestTakeOnEachAxis(t *testing.T) {
	for _, s := range smallShapes() {
		ways(ends(s), func(n []int) {
			takeBy(t, n, counted(s))
			takeBy(t, n, asChars(counted(s)))
		})
	}
}

// takeBy holds Take against its words, or against ErrFull where it would tell
// too many cells.
func takeBy(t *testing.T, n []int, a api.Array) {
	t.Helper()
	want := taken(n, a)
	got, err := Take(n, a)
	if _, full := shape.Count(want.Shape); full != nil {
		wantError(t, got, err, api.ErrFull)
		return
	}
	wantArray(t, got, err, want)
}

// CU1: as many as there are, from either end, is the array itself.
func TestTakeAll(t *testing.T) {
	for _, s := range shapes() {
		back := make([]int, len(s))
		for axis, length := range s {
			back[axis] = -length
		}
		for _, n := range [][]int{s, back} {
			got, err := Take(n, counted(s))
			wantArray(t, got, err, counted(s))
		}
	}
}

// CU1: too few numbers or too many come ahead of one that is too great, and so
// many cells as may be are told, but no more.
func TestTakeRefuses(t *testing.T) {
	m := api.MaxCells
	for _, c := range []struct {
		n    []int
		s    []int
		want api.Errno
	}{
		{nil, []int{3}, api.ErrLength},
		{[]int{1, 1}, []int{3}, api.ErrLength},
		{[]int{1}, []int{2, 2}, api.ErrLength},
		{[]int{1}, nil, api.ErrLength},
		{[]int{m + 1}, nil, api.ErrLength},
		{[]int{api.Least, api.Least}, []int{3}, api.ErrLength},
		{[]int{m + 1}, []int{2, 2}, api.ErrLength},
		{make([]int, api.MaxRank+1), []int{1, 1, 1, 1, 1, 1}, api.ErrLength},
		{[]int{m + 1}, []int{3}, api.ErrFull},
		{[]int{-m - 1}, []int{3}, api.ErrFull},
		{[]int{m + 1}, []int{m}, api.ErrFull},
		{[]int{api.Greatest}, []int{3}, api.ErrFull},
		{[]int{api.Least}, []int{3}, api.ErrFull},
		{[]int{0, m + 1}, []int{2, 2}, api.ErrFull},
		{[]int{-m - 1, 0}, []int{2, 2}, api.ErrFull},
		{[]int{api.Least, 0}, []int{0, 2}, api.ErrFull},
		{[]int{0, api.Greatest}, []int{2, 0}, api.ErrFull},
		{[]int{64, 65}, []int{2, 2}, api.ErrFull},
		{[]int{-64, 65}, []int{2, 2}, api.ErrFull},
		{[]int{m, -2}, []int{0, 0}, api.ErrFull},
		{[]int{m, m, m, m, m, m}, []int{1, 1, 1, 1, 1, 1}, api.ErrFull},
		{[]int{-m, m, -m, m, -m, m}, []int{0, 1, 1, 1, 1, 1}, api.ErrFull},
	} {
		got, err := Take(c.n, counted(c.s))
		wantError(t, got, err, c.want)
	}
	got, err := Take([]int{-64, 64}, nums([]int{1, 1}, 7))
	wantArray(t, got, err, nums([]int{64, 64}, append(make([]int, 63*64), append([]int{7}, make([]int, 63)...)...)...))
}

// CU1, CU2: Check's errors come ahead of those of the numbers.
func TestTakeAndDropRefuseArrays(t *testing.T) {
	for _, w := range wrongArrays() {
		for _, n := range [][]int{nil, {0}, {1}, {1, 1}, {api.Least}, {api.MaxCells + 1, 1}, make([]int, len(w.a.Shape))} {
			got, err := Take(n, w.a)
			wantError(t, got, err, w.want)
			got, err = Drop(n, w.a)
			wantError(t, got, err, w.want)
		}
	}
}

// CU2: all but the first ones, or all but the last ones.
func TestDropTells(t *testing.T) {
	m := api.MaxCells
	six := nums([]int{2, 3}, 1, 2, 3, 4, 5, 6)
	for _, c := range []struct {
		n       []int
		a, want api.Array
	}{
		{[]int{0}, nums([]int{3}, 1, 2, 3), nums([]int{3}, 1, 2, 3)},
		{[]int{2}, nums([]int{3}, 1, 2, 3), nums([]int{1}, 3)},
		{[]int{-2}, nums([]int{3}, 1, 2, 3), nums([]int{1}, 1)},
		{[]int{3}, nums([]int{3}, 1, 2, 3), nums([]int{0})},
		{[]int{-3}, nums([]int{3}, 1, 2, 3), nums([]int{0})},
		{[]int{4}, nums([]int{3}, 1, 2, 3), nums([]int{0})},
		{[]int{-4}, nums([]int{3}, 1, 2, 3), nums([]int{0})},
		{[]int{m + 1}, nums([]int{3}, 1, 2, 3), nums([]int{0})},
		{[]int{api.Greatest}, nums([]int{3}, 1, 2, 3), nums([]int{0})},
		{[]int{api.Least}, nums([]int{3}, 1, 2, 3), nums([]int{0})},
		{[]int{api.Least + 1}, nums([]int{1}, 1), nums([]int{0})},
		{[]int{api.Greatest}, nums([]int{0}), nums([]int{0})},
		{[]int{api.Least}, nums([]int{0}), nums([]int{0})},
		{[]int{1}, chars([]int{3}, 97, 98, 969), chars([]int{2}, 98, 969)},
		{[]int{-1}, chars([]int{3}, 97, 98, 969), chars([]int{2}, 97, 98)},
		{[]int{3}, chars([]int{3}, 97, 98, 969), chars([]int{0})},
		{nil, nums(nil, 7), nums(nil, 7)},
		{[]int{}, chars(nil, 97), chars(nil, 97)},
		{[]int{0, 0}, six, six},
		{[]int{1, 1}, six, nums([]int{1, 2}, 5, 6)},
		{[]int{-1, 1}, six, nums([]int{1, 2}, 2, 3)},
		{[]int{1, -1}, six, nums([]int{1, 2}, 4, 5)},
		{[]int{0, -2}, six, nums([]int{2, 1}, 1, 4)},
		{[]int{api.Greatest, 1}, six, nums([]int{0, 2})},
		{[]int{1, api.Least}, six, nums([]int{1, 0})},
		{[]int{m - 1}, counted([]int{m}), nums([]int{1}, 3*m+97)},
		{[]int{-1, 1, 0, 0, 0, m}, nums([]int{0, m, m, m, m, m}), nums([]int{0, m - 1, m, m, m, 0})},
		{[]int{1, -m, 0, 0, -1, 5}, chars([]int{m, m, m, m, m, 0}), chars([]int{m - 1, 0, m, m, m - 1, 0})},
	} {
		got, err := Drop(c.n, c.a)
		wantArray(t, got, err, c.want)
	}
}

// dropped is Drop by its words: the cells whose indices stay, in order.
func dropped(n []int, a api.Array) api.Array {
	stays := make([][]int, len(n))
	s := make([]int, len(n))
	for axis, length := range a.Shape {
		for i := range length {
			if n[axis] >= 0 && i >= n[axis] || n[axis] < 0 && i-length < n[axis] {
				stays[axis] = append(stays[axis], i)
			}
		}
		s[axis] = len(stays[axis])
	}
	return found(a.Char, s, func(at []int) (int, bool) {
		for axis := range at {
			at[axis] = stays[axis][at[axis]]
		}
		return cellAt(a, at)
	})
}

// CU2: by numbers on each side of the lengths of each shape.
func TestDropOnEachAxis(t *testing.T) {
	for _, s := range smallShapes() {
		ways(ends(s), func(n []int) {
			got, err := Drop(n, counted(s))
			wantArray(t, got, err, dropped(n, counted(s)))
		})
	}
	for _, s := range shapes() {
		got, err := Drop(make([]int, len(s)), counted(s))
		wantArray(t, got, err, counted(s))
	}
}

// CU2: not as many numbers as axes.
func TestDropRefuses(t *testing.T) {
	for _, s := range shapes() {
		for many := range api.MaxRank + 2 {
			if many == len(s) {
				continue
			}
			for _, n := range []int{0, 1, api.Least, api.Greatest} {
				got, err := Drop(slices.Repeat([]int{n}, many), counted(s))
				wantError(t, got, err, api.ErrLength)
			}
		}
	}
}

// CU1, CU2, CU3: what is taken and what is dropped, joined, is the array itself.
func TestTakenAndDroppedJoin(t *testing.T) {
	for _, s := range smallShapes() {
		for axis, length := range s {
			for n := range length + 1 {
				first, err := Take(changed(s, axis, n), counted(s))
				if err != nil {
					t.Fatal(err)
				}
				others, err := Drop(changed(make([]int, len(s)), axis, n), counted(s))
				if err != nil {
					t.Fatal(err)
				}
				got, err := Join(axis, first, others)
				wantArray(t, got, err, counted(s))
			}
		}
	}
}

// CU3: one, and the other behind it.
func TestJoinTells(t *testing.T) {
	m := api.MaxCells
	four, two := nums([]int{2, 2}, 1, 2, 3, 4), nums([]int{1, 2}, 5, 6)
	for _, c := range []struct {
		axis       int
		a, b, want api.Array
	}{
		{0, nums([]int{2}, 1, 2), nums([]int{1}, 3), nums([]int{3}, 1, 2, 3)},
		{0, nums([]int{1}, 3), nums([]int{2}, 1, 2), nums([]int{3}, 3, 1, 2)},
		{0, nums([]int{0}), nums([]int{2}, 1, 2), nums([]int{2}, 1, 2)},
		{0, nums([]int{2}, 1, 2), nums([]int{0}), nums([]int{2}, 1, 2)},
		{0, nums([]int{0}), nums([]int{0}), nums([]int{0})},
		{0, four, two, nums([]int{3, 2}, 1, 2, 3, 4, 5, 6)},
		{0, two, four, nums([]int{3, 2}, 5, 6, 1, 2, 3, 4)},
		{1, four, four, nums([]int{2, 4}, 1, 2, 1, 2, 3, 4, 3, 4)},
		{1, four, nums([]int{2, 1}, 5, 6), nums([]int{2, 3}, 1, 2, 5, 3, 4, 6)},
		{1, nums([]int{2, 0}), four, four},
		{1, four, nums([]int{2, 0}), four},
		{1, nums([]int{0, 2}), nums([]int{0, 3}), nums([]int{0, 5})},
		{1, nums([]int{1, 1, 2}, 1, 2), nums([]int{1, 2, 2}, 3, 4, 5, 6), nums([]int{1, 3, 2}, 1, 2, 3, 4, 5, 6)},
		{0, chars([]int{2}, 97, 98), chars([]int{1}, 969), chars([]int{3}, 97, 98, 969)},
		{0, chars([]int{0}), chars([]int{0}), chars([]int{0})},
		{0, counted([]int{m}), nums([]int{0}), counted([]int{m})},
		{1, nums([]int{m, 0}), counted([]int{m, 1}), counted([]int{m, 1})},
		{0, nums([]int{1, 0}), nums([]int{m - 1, 0}), nums([]int{m, 0})},
		{5, nums([]int{m, m, m, m, m, 0}), nums([]int{m, m, m, m, m, 0}), nums([]int{m, m, m, m, m, 0})},
		{1, nums([]int{0, m, m, m, m, m}), nums([]int{0, 0, m, m, m, m}), nums([]int{0, m, m, m, m, m})},
		{1, chars([]int{m, 1, m, m, 0, m}), chars([]int{m, 2, m, m, 0, m}), chars([]int{m, 3, m, m, 0, m})},
	} {
		got, err := Join(c.axis, c.a, c.b)
		wantArray(t, got, err, c.want)
	}
	half := nums([]int{m / 2}, upTo(m/2)...)
	got, err := Join(0, half, half)
	wantArray(t, got, err, nums([]int{m}, append(upTo(m/2), upTo(m/2)...)...))
}

// CU3: on each axis of each shape, with an array that is shorter there, as long
// or longer.
func TestJoinOnEachAxis(t *testing.T) {
	for _, s := range smallShapes() {
		for axis := range s {
			for other := range 6 {
				b := counted(changed(s, axis, other))
				for i := range b.Data {
					b.Data[i] = -b.Data[i]
				}
				joinOn(t, axis, counted(s), b)
			}
		}
	}
}

// joinOn holds Join against its words, the second one's cells behind the first
// one's length, or against ErrFull where it would tell too many.
func joinOn(t *testing.T, axis int, a, b api.Array) {
	t.Helper()
	length := a.Shape[axis]
	s := changed(a.Shape, axis, length+b.Shape[axis])
	got, err := Join(axis, a, b)
	if _, full := shape.Count(s); full != nil {
		wantError(t, got, err, api.ErrFull)
		return
	}
	wantArray(t, got, err, found(false, s, func(at []int) (int, bool) {
		if at[axis] < length {
			return cellAt(a, at)
		}
		at[axis] -= length
		return cellAt(b, at)
	}))
}

// CU3: its errors, each ahead of those that are named behind it.
func TestJoinRefuses(t *testing.T) {
	m := api.MaxCells
	whole := counted([]int{m})
	for _, c := range []struct {
		axis int
		a, b api.Array
		want api.Errno
	}{
		{0, nums([]int{1}, 1), nums([]int{1, 1}, 1), api.ErrRank},
		{0, nums([]int{1, 1}, 1), nums([]int{1}, 1), api.ErrRank},
		{0, nums(nil, 1), nums([]int{1}, 1), api.ErrRank},
		{0, nums([]int{1}, 1), nums(nil, 1), api.ErrRank},
		{9, nums([]int{1}, 1), chars([]int{3, 0}), api.ErrRank},
		{-1, whole, nums([]int{1, 1}, 1), api.ErrRank},
		{0, nums(nil, 1), nums(nil, 2), api.ErrIndex},
		{0, nums(nil, 1), chars(nil, 97), api.ErrIndex},
		{1, nums([]int{1}, 1), nums([]int{1}, 1), api.ErrIndex},
		{-1, nums([]int{1}, 1), nums([]int{1}, 1), api.ErrIndex},
		{2, nums([]int{1, 1}, 1), chars([]int{1, 2}, 97, 98), api.ErrIndex},
		{api.Least, whole, whole, api.ErrIndex},
		{api.Greatest, whole, whole, api.ErrIndex},
		{0, nums([]int{1, 2}, 1, 2), nums([]int{1, 1}, 1), api.ErrLength},
		{1, nums([]int{1, 2}, 1, 2), nums([]int{2, 2}, 1, 2, 3, 4), api.ErrLength},
		{1, nums([]int{0, 2}), nums([]int{1, 2}, 1, 2), api.ErrLength},
		{0, nums([]int{1, 2}, 1, 2), chars([]int{1, 1}, 97), api.ErrLength},
		{0, nums([]int{m, 0}), nums([]int{m, 1}, upTo(m)...), api.ErrLength},
		{1, nums([]int{1, 1, 2}, 1, 2), nums([]int{1, 1, 1}, 1), api.ErrLength},
		{0, nums([]int{1}, 97), chars([]int{1}, 97), api.ErrDomain},
		{0, chars([]int{1}, 97), nums([]int{1}, 97), api.ErrDomain},
		{0, nums([]int{0}), chars([]int{1}, 97), api.ErrDomain},
		{0, nums([]int{1}, 97), chars([]int{0}), api.ErrDomain},
		{0, chars([]int{0}), nums([]int{0}), api.ErrDomain},
		{0, whole, chars([]int{1}, 97), api.ErrDomain},
		{0, whole, nums([]int{1}, 1), api.ErrFull},
		{0, nums([]int{1}, 1), whole, api.ErrFull},
		{0, whole, whole, api.ErrFull},
		{0, nums([]int{m, 0}), nums([]int{1, 0}), api.ErrFull},
		{1, nums([]int{0, m}), nums([]int{0, 1}), api.ErrFull},
		{5, nums([]int{0, m, m, m, m, m}), nums([]int{0, m, m, m, m, m}), api.ErrFull},
		{1, counted([]int{64, 64}), counted([]int{64, 1}), api.ErrFull},
		{0, counted([]int{64, 64}), counted([]int{1, 64}), api.ErrFull},
	} {
		got, err := Join(c.axis, c.a, c.b)
		wantError(t, got, err, c.want)
	}
}

// CU3: Check's errors come first, the first array's ahead of the second one's.
func TestJoinRefusesArrays(t *testing.T) {
	right := nums([]int{1, 1}, 5)
	for _, w := range wrongArrays() {
		for axis := -1; axis <= api.MaxRank+1; axis++ {
			got, err := Join(axis, w.a, right)
			wantError(t, got, err, w.want)
			got, err = Join(axis, right, w.a)
			wantError(t, got, err, w.want)
			for _, other := range wrongArrays() {
				got, err = Join(axis, w.a, other.a)
				wantError(t, got, err, w.want)
			}
		}
	}
}

// CU4: those at whose index the mask has 1.
func TestKeepTells(t *testing.T) {
	m := api.MaxCells
	six := nums([]int{2, 3}, 1, 2, 3, 4, 5, 6)
	for _, c := range []struct {
		mask    []int
		axis    int
		a, want api.Array
	}{
		{[]int{0, 1, 1}, 0, nums([]int{3}, 5, 6, 7), nums([]int{2}, 6, 7)},
		{[]int{1, 1, 1}, 0, nums([]int{3}, 5, 6, 7), nums([]int{3}, 5, 6, 7)},
		{[]int{0, 0, 0}, 0, nums([]int{3}, 5, 6, 7), nums([]int{0})},
		{nil, 0, nums([]int{0}), nums([]int{0})},
		{[]int{}, 0, chars([]int{0}), chars([]int{0})},
		{[]int{1}, 0, chars([]int{1}, 969), chars([]int{1}, 969)},
		{[]int{0, 1}, 0, chars([]int{2}, 97, 98), chars([]int{1}, 98)},
		{[]int{0, 1}, 0, six, nums([]int{1, 3}, 4, 5, 6)},
		{[]int{1, 0, 1}, 1, six, nums([]int{2, 2}, 1, 3, 4, 6)},
		{[]int{0, 0, 0}, 1, six, nums([]int{2, 0})},
		{[]int{0, 0}, 0, six, nums([]int{0, 3})},
		{nil, 0, nums([]int{0, 3}), nums([]int{0, 3})},
		{[]int{1, 0, 1}, 1, nums([]int{0, 3}), nums([]int{0, 2})},
		{slices.Repeat([]int{1}, m), 0, counted([]int{m}), counted([]int{m})},
		{slices.Repeat([]int{0}, m), 2, nums([]int{0, m, m}), nums([]int{0, m, 0})},
		{append(make([]int, m-1), 1), 4, nums([]int{m, m, m, m, m, 0}), nums([]int{m, m, m, m, 1, 0})},
	} {
		got, err := Keep(c.mask, c.axis, c.a)
		wantArray(t, got, err, c.want)
	}
}

// kept are the indices at which a mask has 1.
func kept(mask []int) []int {
	var at []int
	for i := range mask {
		if mask[i] == 1 {
			at = append(at, i)
		}
	}
	return at
}

// CU4, CU5: by each mask on each axis; what is kept is spread by the same mask
// to the same array, but for fills where the mask has 0.
func TestKeepAndSpreadByEachMask(t *testing.T) {
	for _, s := range smallShapes() {
		for axis, length := range s {
			if length > 7 {
				continue
			}
			masks(length, func(mask []int) {
				keepAndSpread(t, mask, axis, counted(s))
				keepAndSpread(t, mask, axis, asChars(counted(s)))
			})
		}
	}
}

func keepAndSpread(t *testing.T, mask []int, axis int, a api.Array) {
	t.Helper()
	indices := kept(mask)
	want := found(a.Char, changed(a.Shape, axis, len(indices)), func(at []int) (int, bool) {
		at[axis] = indices[at[axis]]
		return cellAt(a, at)
	})
	got, err := Keep(mask, axis, a)
	wantArray(t, got, err, want)
	want = found(a.Char, a.Shape, func(at []int) (int, bool) {
		if mask[at[axis]] == 0 {
			return 0, false
		}
		return cellAt(a, at)
	})
	got, err = Spread(mask, axis, got)
	wantArray(t, got, err, want)
}

// CU4: its errors, each ahead of those that are named behind it.
func TestKeepRefuses(t *testing.T) {
	for _, c := range []struct {
		mask []int
		axis int
		s    []int
		want api.Errno
	}{
		{[]int{1}, 0, nil, api.ErrIndex},
		{nil, 0, nil, api.ErrIndex},
		{[]int{1, 1}, 1, []int{2}, api.ErrIndex},
		{[]int{1, 1}, -1, []int{2}, api.ErrIndex},
		{[]int{5}, 2, []int{2, 3}, api.ErrIndex},
		{[]int{1, 2}, api.Greatest, []int{2}, api.ErrIndex},
		{[]int{1, 2}, api.Least, []int{2}, api.ErrIndex},
		{nil, 0, []int{2}, api.ErrLength},
		{[]int{1}, 0, []int{2}, api.ErrLength},
		{[]int{1, 1, 1}, 0, []int{2}, api.ErrLength},
		{[]int{1, 1}, 1, []int{2, 3}, api.ErrLength},
		{[]int{1, 1, 1}, 0, []int{2, 3}, api.ErrLength},
		{[]int{1}, 0, []int{0}, api.ErrLength},
		{[]int{2, 2, 2}, 0, []int{2}, api.ErrLength},
		{[]int{-1}, 0, []int{2}, api.ErrLength},
		{make([]int, api.MaxCells+1), 0, []int{api.MaxCells}, api.ErrLength},
		{[]int{1, 2}, 0, []int{2}, api.ErrDomain},
		{[]int{-1, 1}, 0, []int{2}, api.ErrDomain},
		{[]int{api.Least, 0}, 0, []int{2}, api.ErrDomain},
		{[]int{0, api.Greatest}, 0, []int{2}, api.ErrDomain},
		{[]int{1, 0, 3}, 1, []int{2, 3}, api.ErrDomain},
		{[]int{1, 0, 3}, 1, []int{0, 3}, api.ErrDomain},
		{[]int{257, 1 << 32}, 0, []int{2}, api.ErrDomain},
	} {
		got, err := Keep(c.mask, c.axis, counted(c.s))
		wantError(t, got, err, c.want)
	}
}

// CU4, CU5: there is no such axis, whatever the mask is.
func TestKeepAndSpreadRefuseAxes(t *testing.T) {
	for _, s := range shapes() {
		for _, axis := range noAxes(len(s)) {
			for _, mask := range [][]int{nil, {0}, {1}, {1, 1}, {2}, make([]int, api.MaxCells+1)} {
				got, err := Keep(mask, axis, counted(s))
				wantError(t, got, err, api.ErrIndex)
				got, err = Spread(mask, axis, counted(s))
				wantError(t, got, err, api.ErrIndex)
			}
		}
	}
}

// CU4, CU5: Check's errors come ahead of all others.
func TestKeepAndSpreadRefuseArrays(t *testing.T) {
	for _, w := range wrongArrays() {
		for axis := -1; axis <= api.MaxRank+1; axis++ {
			for _, mask := range [][]int{nil, {0}, {1}, {1, 1}, {2}, make([]int, api.MaxCells+1)} {
				got, err := Keep(mask, axis, w.a)
				wantError(t, got, err, w.want)
				got, err = Spread(mask, axis, w.a)
				wantError(t, got, err, w.want)
			}
		}
	}
}

// CU5: the next of the axis where the mask has 1, fills where it has 0.
func TestSpreadTells(t *testing.T) {
	m := api.MaxCells
	four := nums([]int{2, 2}, 1, 2, 3, 4)
	for _, c := range []struct {
		mask    []int
		axis    int
		a, want api.Array
	}{
		{[]int{1, 0, 1}, 0, nums([]int{2}, 5, 6), nums([]int{3}, 5, 0, 6)},
		{[]int{0, 0, 1, 1, 0}, 0, nums([]int{2}, 5, 6), nums([]int{5}, 0, 0, 5, 6, 0)},
		{[]int{1, 1}, 0, nums([]int{2}, 5, 6), nums([]int{2}, 5, 6)},
		{nil, 0, nums([]int{0}), nums([]int{0})},
		{[]int{}, 0, chars([]int{0}), chars([]int{0})},
		{[]int{0, 0}, 0, nums([]int{0}), nums([]int{2}, 0, 0)},
		{[]int{0, 0}, 0, chars([]int{0}), chars([]int{2}, 32, 32)},
		{[]int{0, 1, 0}, 0, chars([]int{1}, 969), chars([]int{3}, 32, 969, 32)},
		{[]int{1, 0, 1}, 0, four, nums([]int{3, 2}, 1, 2, 0, 0, 3, 4)},
		{[]int{1, 0, 1}, 1, four, nums([]int{2, 3}, 1, 0, 2, 3, 0, 4)},
		{[]int{0, 1, 1}, 1, nums([]int{0, 2}), nums([]int{0, 3})},
		{[]int{0}, 1, nums([]int{2, 0}), nums([]int{2, 1}, 0, 0)},
		{nil, 1, nums([]int{2, 0}), nums([]int{2, 0})},
		{append(make([]int, m-1), 1), 0, nums([]int{1}, 7), nums([]int{m}, append(make([]int, m-1), 7)...)},
		{make([]int, m), 0, nums([]int{0, 1}), nums([]int{m, 1}, make([]int, m)...)},
		{append(make([]int, m-1), 1), 1, nums([]int{0, 1}), nums([]int{0, m})},
		{make([]int, m), 2, nums([]int{m, 0, 0}), nums([]int{m, 0, m})},
		{[]int{1, 0}, 5, nums([]int{0, m, m, m, m, 1}), nums([]int{0, m, m, m, m, 2})},
	} {
		got, err := Spread(c.mask, c.axis, c.a)
		wantArray(t, got, err, c.want)
	}
}

// CU5: its errors, each ahead of those that are named behind it.
func TestSpreadRefuses(t *testing.T) {
	m := api.MaxCells
	long := make([]int, m+1)
	longOne := append(make([]int, m), 1)
	longWrong := append(make([]int, m), 2)
	for _, c := range []struct {
		mask []int
		axis int
		s    []int
		want api.Errno
	}{
		{[]int{1}, 0, nil, api.ErrIndex},
		{nil, 0, nil, api.ErrIndex},
		{[]int{5}, 1, []int{2}, api.ErrIndex},
		{longWrong, -1, []int{2}, api.ErrIndex},
		{[]int{2}, 0, []int{2}, api.ErrDomain},
		{[]int{1, -1, 1}, 0, []int{2}, api.ErrDomain},
		{[]int{1, 1, 2}, 0, []int{2}, api.ErrDomain},
		{[]int{2, 0}, 0, []int{2}, api.ErrDomain},
		{[]int{3, -1}, 0, []int{2}, api.ErrDomain},
		{[]int{api.Least, api.Least}, 0, []int{0}, api.ErrDomain},
		{[]int{1, api.Greatest}, 0, []int{1}, api.ErrDomain},
		{[]int{9}, 0, []int{0}, api.ErrDomain},
		{longWrong, 0, []int{2}, api.ErrDomain},
		{longWrong, 1, []int{m, 1}, api.ErrDomain},
		{nil, 0, []int{2}, api.ErrLength},
		{[]int{1}, 0, []int{2}, api.ErrLength},
		{[]int{0, 0}, 0, []int{2}, api.ErrLength},
		{[]int{1, 1, 1}, 0, []int{2}, api.ErrLength},
		{[]int{1}, 0, []int{0}, api.ErrLength},
		{[]int{1, 1}, 1, []int{2, 3}, api.ErrLength},
		{[]int{1, 1, 1}, 0, []int{2, 3}, api.ErrLength},
		{long, 0, []int{2}, api.ErrLength},
		{longOne, 0, []int{0}, api.ErrLength},
		{append(slices.Repeat([]int{1}, m), 1), 0, []int{m}, api.ErrLength},
		{append(slices.Repeat([]int{1}, m-1), 0, 0), 0, []int{m}, api.ErrLength},
		{long, 0, []int{0}, api.ErrFull},
		{longOne, 0, []int{1}, api.ErrFull},
		{longOne, 1, []int{0, 1}, api.ErrFull},
		{long, 0, []int{0, 0}, api.ErrFull},
		{append(slices.Repeat([]int{1}, m), 0), 0, []int{m}, api.ErrFull},
		{append(slices.Repeat([]int{1}, 64), 0), 0, []int{64, 64}, api.ErrFull},
		{append(slices.Repeat([]int{1}, 64), 0), 1, []int{64, 64}, api.ErrFull},
		{[]int{0, 0}, 1, []int{m, 0}, api.ErrFull},
		{[]int{0}, 5, []int{m, m, m, m, m, 0}, api.ErrFull},
	} {
		got, err := Spread(c.mask, c.axis, counted(c.s))
		wantError(t, got, err, c.want)
	}
}

// spoil writes over all memory that an array hands out.
func spoil(a api.Array) {
	for _, list := range [][]int{a.Shape[:cap(a.Shape)], a.Data[:cap(a.Data)]} {
		for i := range list {
			list[i] = -9
		}
	}
}

// P2, P4: what is handed in stays as it is, behind its length too, and what
// comes out is fresh memory, also where nothing is cut off and nothing comes to it.
func TestListsAreNeitherWrittenNorShared(t *testing.T) {
	shapeBack, dataBack, maskBack := []int{2, 2, -8}, []int{3, 1, 2, 0, -9}, []int{1, 1, 0, -7}
	a := nums(shapeBack[:2], dataBack[:4]...)
	two := nums(shapeBack[:1], dataBack[:2]...)
	single := nums(shapeBack[:0], dataBack[:1]...)
	none := nums(dataBack[3:4], dataBack[:0]...)
	for k, call := range []func() (api.Array, error){
		func() (api.Array, error) { return Take(shapeBack[:2], a) },
		func() (api.Array, error) { return Take(maskBack[:2], a) },
		func() (api.Array, error) { return Take([]int{-3, 1}, a) },
		func() (api.Array, error) { return Take(maskBack[:0], single) },
		func() (api.Array, error) { return Take(maskBack[2:3], none) },
		func() (api.Array, error) { return Drop(maskBack[:2], a) },
		func() (api.Array, error) { return Drop([]int{0, 0}, a) },
		func() (api.Array, error) { return Drop(maskBack[:0], single) },
		func() (api.Array, error) { return Drop(maskBack[2:3], none) },
		func() (api.Array, error) { return Join(0, a, a) },
		func() (api.Array, error) { return Join(1, a, a) },
		func() (api.Array, error) { return Join(0, two, none) },
		func() (api.Array, error) { return Join(0, none, two) },
		func() (api.Array, error) { return Join(0, none, none) },
		func() (api.Array, error) { return Keep(maskBack[:2], 0, a) },
		func() (api.Array, error) { return Keep(maskBack[1:3], 1, a) },
		func() (api.Array, error) { return Keep(maskBack[:2], 0, two) },
		func() (api.Array, error) { return Keep(maskBack[:0], 0, none) },
		func() (api.Array, error) { return Spread(maskBack[:2], 0, a) },
		func() (api.Array, error) { return Spread(maskBack[:3], 1, a) },
		func() (api.Array, error) { return Spread(maskBack[:2], 0, two) },
		func() (api.Array, error) { return Spread(maskBack[2:3], 0, none) },
		func() (api.Array, error) { return Spread(maskBack[:0], 0, none) },
	} {
		first, err := call()
		if err != nil {
			t.Fatal(err)
		}
		kept := nums(slices.Clone(first.Shape), slices.Clone(first.Data)...)
		spoil(api.Array{Shape: first.Shape})
		if !slices.Equal(first.Data, kept.Data) {
			t.Errorf("call %d: its two lists share memory", k)
		}
		spoil(first)
		again, err := call()
		wantArray(t, again, err, kept)
	}
	if !slices.Equal(shapeBack, []int{2, 2, -8}) || !slices.Equal(dataBack, []int{3, 1, 2, 0, -9}) ||
		!slices.Equal(maskBack, []int{1, 1, 0, -7}) {
		t.Errorf("written into: %v, %v, %v", shapeBack, dataBack, maskBack)
	}
}
