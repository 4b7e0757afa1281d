package shape

import (
	"math"
	"slices"
	"testing"

	"ravelin/api"
	"ravelin/plain"
)

// lists hands f each list of n of the numbers from low to high.
func lists(n, low, high int, f func([]int)) {
	if n == 0 {
		f(nil)
		return
	}
	lists(n-1, low, high, func(head []int) {
		for x := low; x <= high; x++ {
			f(append(slices.Clone(head), x))
		}
	})
}

// wrong is a shape that Count refuses, and what it tells of it.
type wrong struct {
	s    []int
	want api.Errno
}

func wrongShapes() []wrong {
	m := api.MaxCells
	return []wrong{
		{[]int{1, 1, 1, 1, 1, 1, 1}, api.ErrRank},
		{[]int{0, 0, 0, 0, 0, 0, 0}, api.ErrRank},
		{[]int{-1, m + 1, 1, 1, 1, 1, 1}, api.ErrRank},
		{[]int{-1}, api.ErrLength},
		{[]int{math.MinInt}, api.ErrLength},
		{[]int{0, -1}, api.ErrLength},
		{[]int{m, m, -1}, api.ErrLength},
		{[]int{-1, m + 1}, api.ErrLength},
		{[]int{m + 1, -1}, api.ErrFull},
		{[]int{m + 1}, api.ErrFull},
		{[]int{math.MaxInt}, api.ErrFull},
		{[]int{0, m + 1}, api.ErrFull},
		{[]int{m + 1, 0}, api.ErrFull},
		{[]int{m, 2}, api.ErrFull},
		{[]int{2, m}, api.ErrFull},
		{[]int{65, 64}, api.ErrFull},
		{[]int{17, 241}, api.ErrFull},
		{[]int{5, 4, 4, 4, 4, 4}, api.ErrFull},
		{[]int{m, m, m, m, m, m}, api.ErrFull},
		{[]int{16, m, m, m, m, m}, api.ErrFull},
	}
}

// SH1: the product of all lengths.
func TestCountTellsTheProduct(t *testing.T) {
	m := api.MaxCells
	for _, c := range []struct {
		s    []int
		want int
	}{
		{nil, 1},
		{[]int{}, 1},
		{[]int{0}, 0},
		{[]int{1}, 1},
		{[]int{7}, 7},
		{[]int{m}, m},
		{[]int{2, 3, 4}, 24},
		{[]int{64, 64}, m},
		{[]int{1, 1, 1, 1, 1, 1}, 1},
		{[]int{4, 4, 4, 4, 4, 4}, m},
		{[]int{m, 1, 1, 1, 1, 1}, m},
		{[]int{m, 0, m}, 0},
		{[]int{0, m, m, m, m, m}, 0},
		{[]int{m, m, m, m, m, 0}, 0},
	} {
		if got, err := Count(c.s); got != c.want || err != nil {
			t.Errorf("Count(%v): got %d, %v, want %d", c.s, got, err, c.want)
		}
	}
}

// SH1: what is refused, and which error comes first.
func TestCountRefuses(t *testing.T) {
	for _, c := range wrongShapes() {
		if got, err := Count(c.s); got != 0 || plain.Told(err) != c.want {
			t.Errorf("Count(%v): got %d, %v, want 0, %v", c.s, got, err, c.want)
		}
	}
}

// SH2: a cell's place, the last axis fastest.
func TestPlaceTellsThePlace(t *testing.T) {
	for _, c := range []struct {
		s, at []int
		want  int
	}{
		{nil, nil, 0},
		{[]int{}, []int{}, 0},
		{[]int{5}, []int{4}, 4},
		{[]int{2, 3}, []int{0, 1}, 1},
		{[]int{2, 3}, []int{1, 0}, 3},
		{[]int{2, 3}, []int{1, 2}, 5},
		{[]int{2, 3, 4}, []int{1, 2, 3}, 23},
		{[]int{4, 4, 4, 4, 4, 4}, []int{3, 3, 3, 3, 3, 3}, 4095},
		{[]int{4, 4, 4, 4, 4, 4}, []int{1, 0, 0, 0, 0, 0}, 1024},
	} {
		if got, err := Place(c.s, c.at); got != c.want || err != nil {
			t.Errorf("Place(%v, %v): got %d, %v, want %d", c.s, c.at, got, err, c.want)
		}
	}
}

// SH2: what Place refuses, and which error comes first.
func TestPlaceRefuses(t *testing.T) {
	m := api.MaxCells
	for _, c := range []struct {
		s, at []int
		want  api.Errno
	}{
		{[]int{2, 3}, nil, api.ErrRank},
		{[]int{2, 3}, []int{1}, api.ErrRank},
		{[]int{2, 3}, []int{1, 2, 0}, api.ErrRank},
		{nil, []int{0}, api.ErrRank},
		{[]int{2, 3}, []int{9}, api.ErrRank},
		{[]int{2, 3}, []int{1, 3}, api.ErrIndex},
		{[]int{2, 3}, []int{2, 0}, api.ErrIndex},
		{[]int{2, 3}, []int{-1, 0}, api.ErrIndex},
		{[]int{2, 3}, []int{1, -1}, api.ErrIndex},
		{[]int{2, 3}, []int{math.MaxInt, 0}, api.ErrIndex},
		{[]int{2, 3}, []int{0, math.MinInt}, api.ErrIndex},
		{[]int{0}, []int{0}, api.ErrIndex},
		{[]int{0, 3}, []int{0, 0}, api.ErrIndex},
		{[]int{3, 0}, []int{0, 0}, api.ErrIndex},
		{[]int{0, m, m, m, m, m}, []int{0, m - 1, m - 1, m - 1, m - 1, m - 1}, api.ErrIndex},
	} {
		if got, err := Place(c.s, c.at); got != 0 || plain.Told(err) != c.want {
			t.Errorf("Place(%v, %v): got %d, %v, want 0, %v", c.s, c.at, got, err, c.want)
		}
	}
	for _, c := range wrongShapes() {
		for _, at := range [][]int{nil, {-1}, c.s} {
			if got, err := Place(c.s, at); got != 0 || plain.Told(err) != c.want {
				t.Errorf("Place(%v, %v): got %d, %v, want 0, %v", c.s, at, got, err, c.want)
			}
		}
	}
}

// SH2: the indices of a place.
func TestAtTellsTheIndices(t *testing.T) {
	for _, c := range []struct {
		s     []int
		place int
		want  []int
	}{
		{nil, 0, nil},
		{[]int{5}, 4, []int{4}},
		{[]int{2, 3}, 0, []int{0, 0}},
		{[]int{2, 3}, 2, []int{0, 2}},
		{[]int{2, 3}, 4, []int{1, 1}},
		{[]int{2, 3, 4}, 23, []int{1, 2, 3}},
		{[]int{4, 4, 4, 4, 4, 4}, 4095, []int{3, 3, 3, 3, 3, 3}},
	} {
		if got, err := At(c.s, c.place); !slices.Equal(got, c.want) || err != nil {
			t.Errorf("At(%v, %d): got %v, %v, want %v", c.s, c.place, got, err, c.want)
		}
	}
}

// SH2: what At refuses, and which error comes first.
func TestAtRefuses(t *testing.T) {
	m := api.MaxCells
	for _, c := range []struct {
		s     []int
		place int
	}{
		{nil, 1},
		{nil, -1},
		{[]int{2, 3}, 6},
		{[]int{2, 3}, -1},
		{[]int{2, 3}, math.MaxInt},
		{[]int{2, 3}, math.MinInt},
		{[]int{0}, 0},
		{[]int{3, 0}, 0},
		{[]int{0, 3}, 0},
		{[]int{m, m, 0}, 0},
	} {
		if got, err := At(c.s, c.place); got != nil || plain.Told(err) != api.ErrIndex {
			t.Errorf("At(%v, %d): got %v, %v, want nil, ErrIndex", c.s, c.place, got, err)
		}
	}
	for _, c := range wrongShapes() {
		for _, place := range []int{-1, 0, math.MaxInt} {
			if got, err := At(c.s, place); got != nil || plain.Told(err) != c.want {
				t.Errorf("At(%v, %d): got %v, %v, want nil, %v", c.s, place, got, err, c.want)
			}
		}
	}
}

// SH2: Place and At undo each other, and the indices of the places from 0 on
// are the lists of indices in their order.
func TestPlaceAndAtUndoEachOther(t *testing.T) {
	for n := range 5 {
		lists(n, 0, 3, func(s []int) {
			place := 0
			lists(n, 0, 2, func(at []int) {
				for k := range s {
					if at[k] >= s[k] {
						return
					}
				}
				if got, err := Place(s, at); got != place || err != nil {
					t.Errorf("Place(%v, %v): got %d, %v, want %d", s, at, got, err, place)
				}
				if got, err := At(s, place); !slices.Equal(got, at) || err != nil {
					t.Errorf("At(%v, %d): got %v, %v, want %v", s, place, got, err, at)
				}
				place++
			})
			if got, err := Count(s); got != place || err != nil {
				t.Errorf("Count(%v): got %d, %v, want %d", s, got, err, place)
			}
		})
	}
}

// SH3: axis k of s becomes axis p[k].
func TestAxesTellsTheShape(t *testing.T) {
	for _, c := range []struct{ s, p, want []int }{
		{nil, nil, nil},
		{[]int{5}, []int{0}, []int{5}},
		{[]int{2, 3}, []int{0, 1}, []int{2, 3}},
		{[]int{2, 3}, []int{1, 0}, []int{3, 2}},
		{[]int{2, 3, 4}, []int{1, 2, 0}, []int{4, 2, 3}},
		{[]int{2, 3, 4}, []int{2, 0, 1}, []int{3, 4, 2}},
		{[]int{0, 4096, 7}, []int{2, 1, 0}, []int{7, 4096, 0}},
		{[]int{1, 2, 3, 4, 5, 6}, []int{5, 3, 1, 0, 2, 4}, []int{4, 3, 5, 2, 6, 1}},
	} {
		if got, err := Axes(c.s, c.p); !slices.Equal(got, c.want) || err != nil {
			t.Errorf("Axes(%v, %v): got %v, %v, want %v", c.s, c.p, got, err, c.want)
		}
	}
}

// SH3: of all lists of as many numbers as there are axes, the orders are taken
// and the others refused.
func TestAxesTakesOrdersAlone(t *testing.T) {
	s := []int{2, 3, 5, 7}
	lists(len(s), -1, len(s), func(p []int) {
		sorted := slices.Clone(p)
		slices.Sort(sorted)
		got, err := Axes(s, p)
		if !slices.Equal(sorted, []int{0, 1, 2, 3}) {
			if got != nil || plain.Told(err) != api.ErrIndex {
				t.Errorf("Axes(%v, %v): got %v, %v, want nil, ErrIndex", s, p, got, err)
			}
			return
		}
		if len(got) != len(s) || err != nil {
			t.Errorf("Axes(%v, %v): got %v, %v", s, p, got, err)
			return
		}
		for k := range s {
			if got[p[k]] != s[k] {
				t.Errorf("Axes(%v, %v): got %v: axis %d is not %d", s, p, got, p[k], s[k])
			}
		}
	})
}

// SH3: what Axes refuses, and which error comes first.
func TestAxesRefuses(t *testing.T) {
	for _, c := range []struct {
		s, p []int
		want api.Errno
	}{
		{[]int{2, 3}, nil, api.ErrLength},
		{[]int{2, 3}, []int{0}, api.ErrLength},
		{[]int{2, 3}, []int{0, 1, 2}, api.ErrLength},
		{[]int{2, 3}, []int{9}, api.ErrLength},
		{nil, []int{0}, api.ErrLength},
		{[]int{2, 3}, []int{0, 0}, api.ErrIndex},
		{[]int{2, 3}, []int{1, 2}, api.ErrIndex},
		{[]int{2, 3}, []int{-1, 0}, api.ErrIndex},
		{[]int{2, 3}, []int{0, math.MaxInt}, api.ErrIndex},
		{[]int{2, 3}, []int{math.MinInt, 0}, api.ErrIndex},
	} {
		if got, err := Axes(c.s, c.p); got != nil || plain.Told(err) != c.want {
			t.Errorf("Axes(%v, %v): got %v, %v, want nil, %v", c.s, c.p, got, err, c.want)
		}
	}
	for _, c := range wrongShapes() {
		for _, p := range [][]int{nil, {-1}, c.s} {
			if got, err := Axes(c.s, p); got != nil || plain.Told(err) != c.want {
				t.Errorf("Axes(%v, %v): got %v, %v, want nil, %v", c.s, p, got, err, c.want)
			}
		}
	}
}

// SH3, PE1: an order has each number from 0 to below its length once.
func TestIsOrderTells(t *testing.T) {
	for n := range 6 {
		want := make([]int, n)
		for i := range want {
			want[i] = i
		}
		lists(n, -1, n, func(p []int) {
			sorted := slices.Clone(p)
			slices.Sort(sorted)
			if got := IsOrder(p); got != slices.Equal(sorted, want) {
				t.Errorf("IsOrder(%v): got %v", p, got)
			}
		})
	}
	for _, p := range [][]int{{math.MinInt}, {math.MaxInt}, {0, 1 << 32}, {0, math.MinInt + 1}, make([]int, 10000)} {
		if IsOrder(p) {
			t.Errorf("IsOrder of %d numbers, the last one %d: got true", len(p), p[len(p)-1])
		}
	}
}

// P2, P4: what is handed in stays as it is, behind its length too, and what
// comes out is fresh memory.
func TestListsAreNeitherWrittenNorShared(t *testing.T) {
	sBack, pBack := []int{2, 3, 4, -7}, []int{1, 2, 0, -8}
	s, p := sBack[:3], pBack[:3]
	Count(s)
	Place(s, p)
	IsOrder(p)
	for _, tell := range []func() ([]int, error){
		func() ([]int, error) { return At(s, 17) },
		func() ([]int, error) { return Axes(s, p) },
		func() ([]int, error) { return Axes(s, []int{0, 1, 2}) },
	} {
		first, err := tell()
		if err != nil {
			t.Fatal(err)
		}
		kept := slices.Clone(first)
		whole := first[:cap(first)]
		for i := range whole {
			whole[i] = -9
		}
		if again, err := tell(); !slices.Equal(again, kept) || err != nil {
			t.Errorf("told again: got %v, %v, want %v", again, err, kept)
		}
	}
	if !slices.Equal(sBack, []int{2, 3, 4, -7}) || !slices.Equal(pBack, []int{1, 2, 0, -8}) {
		t.Errorf("written into: %v, %v", sBack, pBack)
	}
}

// The axes come from the last one on, and no more of them once one stops.
func TestFromLastStops(t *testing.T) {
	var got []int
	for k, length := range fromLast([]int{5, 6, 7}) {
		got = append(got, k, length)
		if k == 1 {
			break
		}
	}
	if !slices.Equal(got, []int{2, 7, 1, 6}) {
		t.Errorf("got %v", got)
	}
}
