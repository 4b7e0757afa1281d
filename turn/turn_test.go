package turn

import (
	"math"
	"slices"
	"testing"

	"ravelin/api"
	"ravelin/plain"
	"ravelin/shape"
)

// nums and chars are arrays, written short.
func nums(s []int, data ...int) api.Array { return api.Array{Shape: s, Data: data} }

func chars(s []int, data ...int) api.Array { return api.Array{Char: true, Shape: s, Data: data} }

// upTo are the numbers from 0 to below n.
func upTo(n int) []int {
	var all []int
	for i := range n {
		all = append(all, i)
	}
	return all
}

func same(a, b api.Array) bool {
	return a.Char == b.Char && slices.Equal(a.Shape, b.Shape) && slices.Equal(a.Data, b.Data)
}

func brief(a api.Array) (bool, []int, []int) {
	return a.Char, a.Shape, a.Data[:min(len(a.Data), 20)]
}

// wantArray holds what is told against what should be.
func wantArray(t *testing.T, got api.Array, err error, want api.Array) {
	t.Helper()
	if !same(got, want) || err != nil {
		gc, gs, gd := brief(got)
		wc, ws, wd := brief(want)
		t.Errorf("got %v %v %v, %v, want %v %v %v", gc, gs, gd, err, wc, ws, wd)
	}
}

// wantError holds what is told with an error against what should be.
func wantError(t *testing.T, got api.Array, err error, want api.Errno) {
	t.Helper()
	if !same(got, api.Array{}) || plain.Told(err) != want {
		c, s, d := brief(got)
		t.Errorf("got %v %v %v, %v, want nothing, %v", c, s, d, err, want)
	}
}

// wrong is an array with a fault, and what Check tells of it.
type wrong struct {
	a    api.Array
	want api.Errno
}

func wrongArrays() []wrong {
	m := api.MaxCells
	return []wrong{
		{nums([]int{1, 1, 1, 1, 1, 1, 1}, 5), api.ErrRank},
		{chars([]int{1, 1, 1, 1, 1, 1, -1}, -5), api.ErrRank},
		{nums([]int{-1}), api.ErrLength},
		{nums([]int{m + 1}, upTo(m+1)...), api.ErrFull},
		{chars([]int{m, 2}, -5), api.ErrFull},
		{api.Array{}, api.ErrLength},
		{chars(nil), api.ErrLength},
		{nums(nil, 1, 2), api.ErrLength},
		{nums([]int{0}, 1), api.ErrLength},
		{nums([]int{2}, 1), api.ErrLength},
		{nums([]int{2}, 1, 2, 3), api.ErrLength},
		{nums([]int{2, 3}, 1, 2, 3, 4, 5), api.ErrLength},
		{chars([]int{1}, 55296), api.ErrDomain},
		{chars([]int{2, 1}, 97, 1114112), api.ErrDomain},
		{chars(nil, -1), api.ErrDomain},
	}
}

// shapes are some of each number of axes, without cells and with the most.
func shapes() [][]int {
	m := api.MaxCells
	return [][]int{
		nil, {0}, {1}, {2}, {7}, {m},
		{0, 3}, {3, 0}, {1, 5}, {5, 1}, {2, 3}, {4, 4}, {64, 64}, {m, 1}, {m, 0},
		{2, 3, 4}, {4, 1, 3}, {3, 0, 2}, {0, m, m}, {16, 16, 16},
		{2, 1, 3, 4}, {5, 4, 3, 2},
		{2, 3, 1, 2, 3}, {1, 1, 1, 1, 0},
		{4, 4, 4, 4, 4, 4}, {1, 2, 3, 4, 2, 3}, {0, m, m, m, m, m}, {m, m, m, m, m, 0},
	}
}

// counted is an array of that shape, no two of whose cells are the same.
func counted(s []int) api.Array {
	count, _ := shape.Count(s)
	data := upTo(count)
	for i := range data {
		data[i] = 3*i + 100
	}
	return nums(s, data...)
}

// moved is an array of the shape s, at whose indices stands what a has at the
// indices that from tells of them, found one cell after the other by the words
// of chapter 1.
func moved(s []int, a api.Array, from func(at []int) []int) api.Array {
	data := make([]int, len(a.Data))
	for place := range data {
		at, _ := shape.At(s, place)
		stood, _ := shape.Place(a.Shape, from(at))
		data[place] = a.Data[stood]
	}
	return api.Array{Char: a.Char, Shape: s, Data: data}
}

// onAxis moves the index on one axis alone.
func onAxis(axis int, a api.Array, from func(i int) int) api.Array {
	return moved(a.Shape, a, func(at []int) []int {
		at[axis] = from(at[axis])
		return at
	})
}

// orders hands f each order of n numbers.
func orders(n int, f func([]int)) {
	if n == 0 {
		f(nil)
		return
	}
	orders(n-1, func(p []int) {
		for i := range n {
			f(slices.Insert(slices.Clone(p), i, n-1))
		}
	})
}

// noAxes are numbers of no axis, where there are so many.
func noAxes(axes int) []int {
	return []int{-1, axes, axes + 1, -axes - 1, api.MaxRank, api.Least, api.Greatest}
}

// TU1: an axis the other way round.
func TestReverseTells(t *testing.T) {
	for _, c := range []struct {
		axis    int
		a, want api.Array
	}{
		{0, nums([]int{3}, 1, 2, 3), nums([]int{3}, 3, 2, 1)},
		{0, nums([]int{1}, 5), nums([]int{1}, 5)},
		{0, nums([]int{0}), nums([]int{0})},
		{0, nums([]int{2, 2}, 1, 2, 3, 4), nums([]int{2, 2}, 3, 4, 1, 2)},
		{1, nums([]int{2, 2}, 1, 2, 3, 4), nums([]int{2, 2}, 2, 1, 4, 3)},
		{0, nums([]int{2, 3}, 1, 2, 3, 4, 5, 6), nums([]int{2, 3}, 4, 5, 6, 1, 2, 3)},
		{1, nums([]int{2, 3}, 1, 2, 3, 4, 5, 6), nums([]int{2, 3}, 3, 2, 1, 6, 5, 4)},
		{1, nums([]int{2, 2, 2}, 1, 2, 3, 4, 5, 6, 7, 8), nums([]int{2, 2, 2}, 3, 4, 1, 2, 7, 8, 5, 6)},
		{1, nums([]int{0, 3}), nums([]int{0, 3})},
		{0, nums([]int{0, 3}), nums([]int{0, 3})},
		{0, chars([]int{3}, 97, 98, 969), chars([]int{3}, 969, 98, 97)},
		{0, chars([]int{0}), chars([]int{0})},
		{0, nums([]int{2}, api.Least, api.Greatest), nums([]int{2}, api.Greatest, api.Least)},
	} {
		got, err := Reverse(c.axis, c.a)
		wantArray(t, got, err, c.want)
	}
}

// TU1: on each axis of each shape, and twice it is the array itself.
func TestReverseOnEachAxis(t *testing.T) {
	for _, s := range shapes() {
		a := counted(s)
		for axis, length := range s {
			want := onAxis(axis, a, func(i int) int { return length - 1 - i })
			got, err := Reverse(axis, a)
			wantArray(t, got, err, want)
			got, err = Reverse(axis, got)
			wantArray(t, got, err, a)
		}
	}
}

// TU1: there is no such axis, whatever else the array is.
func TestReverseRefusesAxes(t *testing.T) {
	for _, s := range shapes() {
		for _, axis := range noAxes(len(s)) {
			got, err := Reverse(axis, counted(s))
			wantError(t, got, err, api.ErrIndex)
		}
	}
	got, err := Reverse(0, chars(nil, 97))
	wantError(t, got, err, api.ErrIndex)
	got, err = Reverse(1, chars([]int{2}, 97, 98))
	wantError(t, got, err, api.ErrIndex)
}

// TU1: Check's errors come ahead of those of the axis.
func TestReverseRefusesArrays(t *testing.T) {
	for _, w := range wrongArrays() {
		for axis := -1; axis <= api.MaxRank+1; axis++ {
			got, err := Reverse(axis, w.a)
			wantError(t, got, err, w.want)
		}
	}
}

// TU2: what stood n further on, and from the beginning again.
func TestRotateTells(t *testing.T) {
	five := nums([]int{5}, 10, 11, 12, 13, 14)
	six := nums([]int{2, 3}, 1, 2, 3, 4, 5, 6)
	for _, c := range []struct {
		n, axis int
		a, want api.Array
	}{
		{0, 0, five, five},
		{1, 0, five, nums([]int{5}, 11, 12, 13, 14, 10)},
		{2, 0, five, nums([]int{5}, 12, 13, 14, 10, 11)},
		{4, 0, five, nums([]int{5}, 14, 10, 11, 12, 13)},
		{5, 0, five, five},
		{7, 0, five, nums([]int{5}, 12, 13, 14, 10, 11)},
		{-1, 0, five, nums([]int{5}, 14, 10, 11, 12, 13)},
		{-2, 0, five, nums([]int{5}, 13, 14, 10, 11, 12)},
		{-5, 0, five, five},
		{-6, 0, five, nums([]int{5}, 14, 10, 11, 12, 13)},
		// Greatest is 2 more than a multiple of 5, Least 3 less than one.
		{api.Greatest, 0, five, nums([]int{5}, 12, 13, 14, 10, 11)},
		{api.Least, 0, five, nums([]int{5}, 12, 13, 14, 10, 11)},
		{1, 0, six, nums([]int{2, 3}, 4, 5, 6, 1, 2, 3)},
		{1, 1, six, nums([]int{2, 3}, 2, 3, 1, 5, 6, 4)},
		{-1, 1, six, nums([]int{2, 3}, 3, 1, 2, 6, 4, 5)},
		{api.Least, 0, nums([]int{0}), nums([]int{0})},
		{api.Greatest, 1, nums([]int{2, 0}), nums([]int{2, 0})},
		{1, 0, nums([]int{2, 0}), nums([]int{2, 0})},
		{api.Least, 0, nums([]int{1}, 5), nums([]int{1}, 5)},
		{1, 0, chars([]int{3}, 97, 98, 969), chars([]int{3}, 98, 969, 97)},
		{1, 0, chars([]int{0}), chars([]int{0})},
	} {
		got, err := Rotate(c.n, c.axis, c.a)
		wantArray(t, got, err, c.want)
	}
}

// further is the index n further on, one step after the other; the whole rounds
// of n are left out.
func further(i, n, length int) int {
	rest := n % length
	for ; rest > 0; rest-- {
		if i++; i == length {
			i = 0
		}
	}
	for ; rest < 0; rest++ {
		if i--; i < 0 {
			i = length - 1
		}
	}
	return i
}

// TU2: on each axis of each shape, and back again.
func TestRotateOnEachAxis(t *testing.T) {
	for _, s := range shapes() {
		a := counted(s)
		for axis, length := range s {
			for _, n := range []int{0, 1, -1, 2, -3, 5, length, -length, length - 1, length + 1, math.MaxInt - 1, math.MinInt + 1} {
				want := onAxis(axis, a, func(i int) int { return further(i, n, length) })
				got, err := Rotate(n, axis, a)
				wantArray(t, got, err, want)
				got, err = Rotate(-n, axis, got)
				wantArray(t, got, err, a)
			}
		}
	}
}

// TU2: turned by a number's two halves, one after the other, it stands as turned
// by the whole number, the greatest and the least one too.
func TestRotateByHalves(t *testing.T) {
	for _, length := range []int{1, 2, 3, 6, 7, 100, 4095, 4096} {
		a := counted([]int{length})
		for _, n := range []int{api.Least, api.Least + 1, -9, 10, api.Greatest - 1, api.Greatest} {
			want, err := Rotate(n/2, 0, a)
			if err != nil {
				t.Fatal(err)
			}
			want, err = Rotate(n-n/2, 0, want)
			if err != nil {
				t.Fatal(err)
			}
			got, err := Rotate(n, 0, a)
			wantArray(t, got, err, want)
		}
	}
}

// TU2: there is no such axis, however far it is turned.
func TestRotateRefusesAxes(t *testing.T) {
	for _, s := range shapes() {
		for _, axis := range noAxes(len(s)) {
			for _, n := range []int{0, 1, -1, api.Least, api.Greatest} {
				got, err := Rotate(n, axis, counted(s))
				wantError(t, got, err, api.ErrIndex)
			}
		}
	}
	got, err := Rotate(0, 0, chars(nil, 97))
	wantError(t, got, err, api.ErrIndex)
}

// TU2: Check's errors come ahead of those of the axis.
func TestRotateRefusesArrays(t *testing.T) {
	for _, w := range wrongArrays() {
		for axis := -1; axis <= api.MaxRank+1; axis++ {
			for _, n := range []int{0, 1, api.Least} {
				got, err := Rotate(n, axis, w.a)
				wantError(t, got, err, w.want)
			}
		}
	}
}

// TU3: axis k becomes axis p[k].
func TestFlipTells(t *testing.T) {
	six := nums([]int{2, 3}, 1, 2, 3, 4, 5, 6)
	for _, c := range []struct {
		p       []int
		a, want api.Array
	}{
		{nil, nums(nil, 7), nums(nil, 7)},
		{[]int{}, chars(nil, 97), chars(nil, 97)},
		{[]int{0}, nums([]int{2}, 1, 2), nums([]int{2}, 1, 2)},
		{[]int{0}, chars([]int{0}), chars([]int{0})},
		{[]int{0, 1}, six, six},
		{[]int{1, 0}, six, nums([]int{3, 2}, 1, 4, 2, 5, 3, 6)},
		{[]int{1, 0}, chars([]int{1, 2}, 97, 98), chars([]int{2, 1}, 97, 98)},
		{[]int{1, 0}, nums([]int{0, 3}), nums([]int{3, 0})},
		// Axis 0 becomes axis 1, axis 1 axis 2 and axis 2 axis 0; and the other way.
		{[]int{1, 2, 0}, nums([]int{1, 2, 3}, 1, 2, 3, 4, 5, 6), nums([]int{3, 1, 2}, 1, 4, 2, 5, 3, 6)},
		{[]int{2, 0, 1}, nums([]int{2, 1, 3}, 1, 2, 3, 4, 5, 6), nums([]int{1, 3, 2}, 1, 4, 2, 5, 3, 6)},
		{[]int{1, 2, 0}, nums([]int{2, 2, 2}, 1, 2, 3, 4, 5, 6, 7, 8), nums([]int{2, 2, 2}, 1, 3, 5, 7, 2, 4, 6, 8)},
		{[]int{2, 0, 1}, nums([]int{2, 2, 2}, 1, 2, 3, 4, 5, 6, 7, 8), nums([]int{2, 2, 2}, 1, 5, 2, 6, 3, 7, 4, 8)},
	} {
		got, err := Flip(c.p, c.a)
		wantArray(t, got, err, c.want)
	}
}

// TU3: by each order of the axes of each shape, and back by its inverse.
func TestFlipByEachOrder(t *testing.T) {
	for _, s := range shapes() {
		a := counted(s)
		orders(len(s), func(p []int) { flipThereAndBack(t, p, a) })
	}
}

// flipThereAndBack holds Flip of a by an order against its words, and that of
// its answer by the order's inverse against a.
func flipThereAndBack(t *testing.T, p []int, a api.Array) {
	t.Helper()
	s, inverse := make([]int, len(p)), make([]int, len(p))
	for k := range p {
		s[p[k]], inverse[p[k]] = a.Shape[k], k
	}
	want := moved(s, a, func(at []int) []int {
		stood := make([]int, len(p))
		for k := range p {
			stood[k] = at[p[k]]
		}
		return stood
	})
	got, err := Flip(p, a)
	wantArray(t, got, err, want)
	got, err = Flip(inverse, got)
	wantArray(t, got, err, a)
}

// TU3: the errors of Axes.
func TestFlipRefusesOrders(t *testing.T) {
	for _, c := range []struct {
		p, s []int
		want api.Errno
	}{
		{nil, []int{2, 3}, api.ErrLength},
		{[]int{0}, []int{2, 3}, api.ErrLength},
		{[]int{0, 1, 2}, []int{2, 3}, api.ErrLength},
		{[]int{9}, []int{2, 3}, api.ErrLength},
		{[]int{0}, nil, api.ErrLength},
		{[]int{}, []int{0}, api.ErrLength},
		{[]int{0, 1, 2, 3, 4, 5, 6}, []int{1, 1, 1, 1, 1, 1}, api.ErrLength},
		{[]int{0, 0}, []int{2, 3}, api.ErrIndex},
		{[]int{1, 1}, []int{2, 3}, api.ErrIndex},
		{[]int{1, 2}, []int{2, 3}, api.ErrIndex},
		{[]int{-1, 0}, []int{2, 3}, api.ErrIndex},
		{[]int{0, math.MaxInt}, []int{2, 3}, api.ErrIndex},
		{[]int{math.MinInt, 0}, []int{2, 3}, api.ErrIndex},
		{[]int{1}, []int{5}, api.ErrIndex},
		{[]int{1}, []int{0}, api.ErrIndex},
		{[]int{0, 0, 1}, []int{3, 0, 2}, api.ErrIndex},
	} {
		got, err := Flip(c.p, counted(c.s))
		wantError(t, got, err, c.want)
	}
}

// TU3: Check's errors come ahead of those of Axes.
func TestFlipRefusesArrays(t *testing.T) {
	for _, w := range wrongArrays() {
		for _, p := range [][]int{nil, {-1}, {0}, {1, 1}, {0, 0}, {1, 0}, {0, 1, 2, 3, 4, 5, 6}, upTo(len(w.a.Shape))} {
			got, err := Flip(p, w.a)
			wantError(t, got, err, w.want)
		}
	}
}

// spoil writes over all memory that an array hands out.
func spoil(a api.Array) {
	for _, list := range [][]int{a.Shape[:cap(a.Shape)], a.Data[:cap(a.Data)]} {
		for i := range list {
			list[i] = -9
		}
	}
}

// P2, P4: what is handed in stays as it is, behind its length too, and what
// comes out is fresh memory, also where nothing is moved.
func TestListsAreNeitherWrittenNorShared(t *testing.T) {
	shapeBack, dataBack, orderBack := []int{2, 2, -8}, []int{3, 1, 2, 0, -9}, []int{1, 0, -7}
	a := nums(shapeBack[:2], dataBack[:4]...)
	one := nums(dataBack[1:2], shapeBack[:1]...)
	single := nums(shapeBack[:0], dataBack[:1]...)
	none := nums(dataBack[3:4], dataBack[:0]...)
	for k, call := range []func() (api.Array, error){
		func() (api.Array, error) { return Reverse(0, a) },
		func() (api.Array, error) { return Reverse(1, a) },
		func() (api.Array, error) { return Reverse(0, one) },
		func() (api.Array, error) { return Reverse(0, none) },
		func() (api.Array, error) { return Rotate(1, 0, a) },
		func() (api.Array, error) { return Rotate(0, 1, a) },
		func() (api.Array, error) { return Rotate(0, 0, one) },
		func() (api.Array, error) { return Rotate(5, 0, none) },
		func() (api.Array, error) { return Flip(orderBack[:2], a) },
		func() (api.Array, error) { return Flip([]int{0, 1}, a) },
		func() (api.Array, error) { return Flip(orderBack[1:2], one) },
		func() (api.Array, error) { return Flip(orderBack[:0], single) },
		func() (api.Array, error) { return Flip(orderBack[1:2], none) },
	} {
		first, err := call()
		if err != nil {
			t.Fatal(err)
		}
		kept := nums(slices.Clone(first.Shape), slices.Clone(first.Data)...)
		spoil(api.Array{Shape: first.Shape})
		if !slices.Equal(first.Data, kept.Data) {
			t.Errorf("call %d: its two lists share memory", k)
		}
		spoil(first)
		again, err := call()
		wantArray(t, again, err, kept)
	}
	if !slices.Equal(shapeBack, []int{2, 2, -8}) || !slices.Equal(dataBack, []int{3, 1, 2, 0, -9}) ||
		!slices.Equal(orderBack, []int{1, 0, -7}) {
		t.Errorf("written into: %v, %v, %v", shapeBack, dataBack, orderBack)
	}
}
