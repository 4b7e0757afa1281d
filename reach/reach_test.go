package reach

import (
	"slices"
	"testing"

	"ravelin/api"
	"ravelin/arr"
	"ravelin/perm"
	"ravelin/plain"
)

// square is a relation of n things.
func square(n int, data ...int) api.Array {
	return api.Array{Shape: []int{n, n}, Data: data}
}

// stepping is the relation of n things that has the steps of which leads tells.
func stepping(n int, leads func(i, j int) bool) api.Array {
	data := make([]int, n*n)
	for place := range data {
		if leads(place/n, place%n) {
			data[place] = 1
		}
	}
	return square(n, data...)
}

// small are all relations of up to three things, and each third one of four.
func small() []api.Array {
	var all []api.Array
	for n := range 5 {
		for set := 0; set < 1<<(n*n); set += max(1, n*n/5) {
			all = append(all, stepping(n, func(i, j int) bool { return set>>(i*n+j)&1 == 1 }))
		}
	}
	return all
}

// mixed is a number below 1000 that has no order to be seen, of two things.
func mixed(i, j int) int {
	x := uint64(i*64+j+1) * 0x9e3779b97f4a7c15
	x ^= x >> 29
	x *= 0xbf58476d1ce4e5b9
	return int((x >> 32) % 1000)
}

// shapes are rules by which steps are laid: lines, rings, trees, parts that have
// nothing in common, and such as have no order to be seen, of few steps and many.
func shapes() []func(i, j int) bool {
	all := []func(i, j int) bool{
		func(i, j int) bool { return false },
		func(i, j int) bool { return true },
		func(i, j int) bool { return i == j },
		func(i, j int) bool { return i != j },
		func(i, j int) bool { return j == i+1 },
		func(i, j int) bool { return i == j+1 },
		func(i, j int) bool { return i < j },
		func(i, j int) bool { return i > j },
		func(i, j int) bool { return j == (i+1)%5 },
		func(i, j int) bool { return j == (i+7)%24 },
		func(i, j int) bool { return j == (i+3)%23 },
		func(i, j int) bool { return j == 2*i+1 || j == 2*i+2 },
		func(i, j int) bool { return i == 2*j+1 || i == 2*j+2 },
		func(i, j int) bool { return i%4 == j%4 && i > j },
		func(i, j int) bool { return i/6 == j/6 && j%6 == (i+1)%6 },
		func(i, j int) bool { return i == 0 || j == 23 },
		func(i, j int) bool { return i == 23 || j == 0 },
	}
	for seed := range 12 {
		for _, many := range []int{20, 45, 80, 200, 600} {
			steps := func(i, j int) bool { return mixed(i+100*seed, j) < many }
			all = append(all, steps,
				func(i, j int) bool { return i < j && steps(i, j) },
				func(i, j int) bool { return i > j && steps(i, j) },
				// Without a ring, and neither up nor down: things have the places that
				// steps of seven give them, which meet each of 24 once.
				func(i, j int) bool { return i*7%24 < j*7%24 && steps(i, j) })
		}
	}
	return all
}

// great are relations of more things, up to as many as may be.
func great() []api.Array {
	var all []api.Array
	for _, n := range []int{5, 6, 9, 16, 23, api.MaxThings} {
		for _, leads := range shapes() {
			all = append(all, stepping(n, leads))
		}
	}
	return all
}

func relations() []api.Array { return append(small(), great()...) }

// many is how many things a relation has.
func many(a api.Array) int { return a.Shape[0] }

// leads tells if a step leads from i to j.
func leads(a api.Array, i, j int) bool { return a.Data[i*many(a)+j] == 1 }

// walks tells of each number of steps from 0 to that of the things, and of each
// two things, if just so many steps lead from one to the other. A way that is
// longer than there are things meets one of them twice, and so needs not all of
// its steps.
func walks(a api.Array) [][][]bool {
	n := many(a)
	all := make([][][]bool, n+1)
	for k := range all {
		all[k] = make([][]bool, n)
		for i := range n {
			all[k][i] = make([]bool, n)
			for j := range n {
				if k == 0 {
					all[k][i][j] = i == j
					continue
				}
				for via := range n {
					all[k][i][j] = all[k][i][j] || all[k-1][i][via] && leads(a, via, j)
				}
			}
		}
	}
	return all
}

// leastSteps is the least number of steps, first or more, by which one comes from
// i to j, or -1.
func leastSteps(all [][][]bool, first, i, j int) int {
	for k := first; k < len(all); k++ {
		if all[k][i][j] {
			return k
		}
	}
	return -1
}

func same(a, b api.Array) bool {
	return a.Char == b.Char && slices.Equal(a.Shape, b.Shape) && slices.Equal(a.Data, b.Data)
}

// wantArray holds what is told against what should be.
func wantArray(t *testing.T, got api.Array, err error, want api.Array) {
	t.Helper()
	if !same(got, want) || err != nil {
		t.Errorf("got %v, %v, want %v", got, err, want)
	}
}

// wantList does so with a list.
func wantList(t *testing.T, got []int, err error, want []int) {
	t.Helper()
	if !slices.Equal(got, want) || err != nil {
		t.Errorf("got %v, %v, want %v", got, err, want)
	}
}

// RE1: relations whose ways are known.
func TestCloseTells(t *testing.T) {
	for _, c := range []struct{ a, want api.Array }{
		{square(0), square(0)},
		{square(1, 0), square(1, 0)},
		{square(1, 1), square(1, 1)},
		{square(2, 0, 1, 0, 0), square(2, 0, 1, 0, 0)},
		{square(2, 0, 1, 1, 0), square(2, 1, 1, 1, 1)},
		{square(2, 1, 0, 0, 0), square(2, 1, 0, 0, 0)},
		{square(3, 0, 1, 0, 0, 0, 1, 0, 0, 0), square(3, 0, 1, 1, 0, 0, 1, 0, 0, 0)},
		{square(3, 0, 0, 0, 1, 0, 0, 0, 1, 0), square(3, 0, 0, 0, 1, 0, 0, 1, 1, 0)},
		{square(3, 0, 0, 1, 0, 0, 0, 0, 1, 0), square(3, 0, 1, 1, 0, 0, 0, 0, 1, 0)},
		{square(3, 0, 1, 0, 1, 0, 1, 0, 0, 0), square(3, 1, 1, 1, 1, 1, 1, 0, 0, 0)},
	} {
		got, err := Close(c.a)
		wantArray(t, got, err, c.want)
	}
	n := api.MaxThings
	got, err := Close(stepping(n, func(i, j int) bool { return j == (i+5)%n }))
	wantArray(t, got, err, stepping(n, func(i, j int) bool { return true }))
	got, err = Close(stepping(n, func(i, j int) bool { return j == i-1 }))
	wantArray(t, got, err, stepping(n, func(i, j int) bool { return j < i }))
}

// RE1: by its words, of many relations.
func TestCloseHasEachWay(t *testing.T) {
	for _, a := range relations() {
		all := walks(a)
		want := stepping(many(a), func(i, j int) bool { return leastSteps(all, 1, i, j) > 0 })
		got, err := Close(a)
		wantArray(t, got, err, want)
	}
}

// RE1: it is the least relation above the one that is handed in in which what two
// steps do one does too.
func TestCloseIsTheLeastOneAbove(t *testing.T) {
	above := func(a, b api.Array) bool {
		for place, x := range b.Data {
			if a.Data[place] < x {
				return false
			}
		}
		return true
	}
	for n := range 4 {
		var all, closed []api.Array
		for set := range 1 << (n * n) {
			a := stepping(n, func(i, j int) bool { return set>>(i*n+j)&1 == 1 })
			two := walks(a)
			all = append(all, a)
			if n < 2 || above(a, stepping(n, func(i, j int) bool { return two[2][i][j] })) {
				closed = append(closed, a)
			}
		}
		for _, a := range all {
			got, err := Close(a)
			if err != nil || !above(got, a) || !slices.ContainsFunc(closed, func(c api.Array) bool { return same(c, got) }) {
				t.Errorf("Close(%v): got %v, %v, which is none above it that is closed", a, got, err)
			}
			for _, c := range closed {
				if above(c, a) && !above(c, got) {
					t.Errorf("Close(%v): got %v, but %v is less", a, got, c)
				}
			}
		}
	}
}

// RE1: what is closed stays as it is.
func TestCloseOfWhatIsClosed(t *testing.T) {
	for _, a := range relations() {
		once, err := Close(a)
		if err != nil || arr.Check(once) != nil {
			t.Fatalf("Close(%v): got %v, %v", a, once, err)
		}
		twice, err := Close(once)
		wantArray(t, twice, err, once)
	}
}

// RE2: relations whose classes are known.
func TestClassesTells(t *testing.T) {
	for _, c := range []struct {
		a    api.Array
		want []int
	}{
		{square(0), nil},
		{square(1, 0), []int{0}},
		{square(1, 1), []int{0}},
		{square(2, 0, 1, 0, 0), []int{0, 1}},
		{square(2, 0, 0, 1, 0), []int{0, 1}},
		{square(2, 0, 1, 1, 0), []int{0, 0}},
		{square(3, 0, 1, 0, 1, 0, 1, 0, 0, 0), []int{0, 0, 2}},
		{square(3, 0, 0, 0, 0, 0, 1, 0, 1, 0), []int{0, 1, 1}},
		{square(3, 0, 0, 1, 0, 0, 0, 1, 0, 0), []int{0, 1, 0}},
		{square(3, 0, 1, 0, 0, 0, 1, 1, 0, 0), []int{0, 0, 0}},
		{square(4, 0, 0, 0, 1, 0, 0, 1, 0, 0, 1, 0, 0, 1, 0, 0, 0), []int{0, 1, 1, 0}},
		// 0 leads to 1 and 2, which lead to each other, but not back to 0.
		{square(3, 0, 1, 0, 0, 0, 1, 0, 1, 0), []int{0, 1, 1}},
	} {
		got, err := Classes(c.a)
		wantList(t, got, err, c.want)
	}
	n := api.MaxThings
	got, err := Classes(stepping(n, func(i, j int) bool { return j == (i+n-1)%n }))
	wantList(t, got, err, make([]int, n))
	got, err = Classes(stepping(n, func(i, j int) bool { return j == (i+4)%n }))
	var want []int
	for i := range n {
		want = append(want, i%4)
	}
	wantList(t, got, err, want)
}

// RE2: by its words, of many relations.
func TestClassesAreThoseThatLeadBack(t *testing.T) {
	for _, a := range relations() {
		all := walks(a)
		want := make([]int, many(a))
		for i := range want {
			want[i] = i
			for j := range many(a) {
				if leastSteps(all, 0, i, j) >= 0 && leastSteps(all, 0, j, i) >= 0 {
					want[i] = min(want[i], j)
				}
			}
		}
		got, err := Classes(a)
		wantList(t, got, err, want)
	}
}

// RE3: orders that are known.
func TestOrderTells(t *testing.T) {
	for _, c := range []struct {
		a    api.Array
		want []int
	}{
		{square(0), nil},
		{square(1, 0), []int{0}},
		{square(2, 0, 0, 0, 0), []int{0, 1}},
		{square(2, 0, 1, 0, 0), []int{0, 1}},
		{square(2, 0, 0, 1, 0), []int{1, 0}},
		{square(3, 0, 0, 0, 1, 0, 0, 1, 0, 0), []int{1, 2, 0}},
		{square(3, 0, 0, 0, 0, 0, 0, 1, 0, 0), []int{1, 2, 0}},
		// 0 may be next as soon as 1 is told, ahead of 2.
		{square(3, 0, 0, 0, 1, 0, 0, 0, 0, 0), []int{1, 0, 2}},
		// The least one is taken of those that may be next, and not the one that
		// leads to the least one.
		{square(4, 0, 0, 0, 0, 0, 0, 0, 0, 0, 0, 0, 0, 1, 0, 0, 0), []int{1, 2, 3, 0}},
		{square(4, 0, 0, 0, 0, 1, 0, 0, 0, 0, 0, 0, 0, 0, 1, 0, 0), []int{2, 3, 1, 0}},
	} {
		got, err := Order(c.a)
		wantList(t, got, err, c.want)
	}
	n := api.MaxThings
	down := make([]int, n)
	for i := range down {
		down[i] = n - 1 - i
	}
	got, err := Order(stepping(n, func(i, j int) bool { return j == i-1 }))
	wantList(t, got, err, down)
	slices.Reverse(down)
	got, err = Order(stepping(n, func(i, j int) bool { return false }))
	wantList(t, got, err, down)
}

// RE3: where each takes the least that may be next, the first in the order of all
// orders is told of those that do.
func TestOrderIsTheFirstOfAllThatDo(t *testing.T) {
	does := func(a api.Array, p []int) bool {
		for k, i := range p {
			for _, j := range p[:k+1] {
				if leads(a, i, j) {
					return false
				}
			}
		}
		return true
	}
	for _, a := range small() {
		var want []int
		found := false
		for rank := 0; !found; rank++ {
			p, err := perm.Unrank(many(a), rank)
			if err != nil {
				break
			}
			if does(a, p) {
				want, found = p, true
			}
		}
		got, err := Order(a)
		if !found {
			wantNone(t, a, got, err)
			continue
		}
		wantList(t, got, err, want)
	}
}

// wantNone holds what is told against that there is no such order.
func wantNone(t *testing.T, a api.Array, got []int, err error) {
	t.Helper()
	if len(got) != 0 || plain.Told(err) != api.ErrState {
		t.Errorf("Order(%v): got %v, %v, want nothing, ErrState", a, got, err)
	}
}

// RE3: by its words, of many relations: there is an order where nothing leads back
// to itself, and at each place of it stands the least thing that may be there.
func TestOrderTakesTheLeastThatMayBeNext(t *testing.T) {
	orders, none := 0, 0
	for _, a := range relations() {
		all := walks(a)
		rings := false
		for i := range many(a) {
			rings = rings || leastSteps(all, 1, i, i) > 0
		}
		got, err := Order(a)
		if rings {
			none++
			wantNone(t, a, got, err)
			continue
		}
		orders++
		if err != nil || perm.Check(got) != nil || len(got) != many(a) {
			t.Fatalf("Order(%v): got %v, %v, want all of them", a, got, err)
		}
		for k, told := range got {
			least := slices.Min(free(all, got[k:]))
			if told != least {
				t.Fatalf("Order(%v): got %v, but %d may be at %d", a, got, least, k)
			}
		}
	}
	if orders < 500 || none < 500 {
		t.Errorf("%d relations have an order, %d have none: too few to tell", orders, none)
	}
}

// free are those of the things that are left to which none of them leads.
func free(all [][][]bool, left []int) []int {
	var told []int
	for _, j := range left {
		if !slices.ContainsFunc(left, func(i int) bool { return leastSteps(all, 1, i, j) > 0 }) {
			told = append(told, j)
		}
	}
	return told
}

// RE3: there is no such order.
func TestOrderRefuses(t *testing.T) {
	n := api.MaxThings
	for _, a := range []api.Array{
		square(1, 1),
		square(2, 1, 0, 0, 0),
		square(2, 0, 0, 0, 1),
		square(2, 0, 1, 1, 0),
		square(3, 0, 1, 0, 0, 0, 1, 1, 0, 0),
		square(3, 0, 1, 0, 0, 0, 1, 0, 1, 0),
		square(3, 0, 1, 0, 1, 0, 1, 0, 0, 0),
		stepping(n, func(i, j int) bool { return j == (i+1)%n }),
		stepping(n, func(i, j int) bool { return i == n-1 && j == n-1 }),
		stepping(n, func(i, j int) bool { return i < j || i == n-1 && j == 0 }),
		stepping(n, func(i, j int) bool { return i < j || i == n-1 && j == n-2 }),
	} {
		got, err := Order(a)
		wantNone(t, a, got, err)
	}
}

// RE4: numbers of steps that are known.
func TestFarTells(t *testing.T) {
	line := square(3, 0, 1, 0, 0, 0, 1, 0, 0, 0)
	n := api.MaxThings
	ring := stepping(n, func(i, j int) bool { return j == (i+1)%n })
	for _, c := range []struct {
		a    api.Array
		from int
		want []int
	}{
		{square(1, 0), 0, []int{0}},
		{square(1, 1), 0, []int{0}},
		{line, 0, []int{0, 1, 2}},
		{line, 1, []int{-1, 0, 1}},
		{line, 2, []int{-1, -1, 0}},
		{square(2, 0, 1, 1, 0), 1, []int{1, 0}},
		{square(2, 1, 0, 0, 1), 1, []int{-1, 0}},
		// The straight way is the least, and not the one by the lesser thing.
		{square(3, 0, 1, 1, 0, 0, 1, 0, 0, 0), 0, []int{0, 1, 1}},
		{square(4, 0, 1, 0, 1, 0, 0, 1, 0, 0, 0, 0, 0, 0, 0, 1, 0), 0, []int{0, 1, 2, 1}},
		// The long way meets 4 by 1 and 2, the short one by 3.
		{square(5, 0, 1, 0, 1, 0, 0, 0, 1, 0, 0, 0, 0, 0, 0, 1, 0, 0, 0, 0, 1, 0, 0, 0, 0, 0), 0, []int{0, 1, 2, 1, 2}},
		{ring, 0, []int{0, 1, 2, 3, 4, 5, 6, 7, 8, 9, 10, 11, 12, 13, 14, 15, 16, 17, 18, 19, 20, 21, 22, 23}},
		{ring, 23, []int{1, 2, 3, 4, 5, 6, 7, 8, 9, 10, 11, 12, 13, 14, 15, 16, 17, 18, 19, 20, 21, 22, 23, 0}},
	} {
		got, err := Far(c.a, c.from)
		wantList(t, got, err, c.want)
	}
}

// RE4: by its words, of many relations.
func TestFarIsTheLeastNumberOfSteps(t *testing.T) {
	for _, a := range relations() {
		all := walks(a)
		for from := range many(a) {
			want := make([]int, many(a))
			for j := range want {
				want[j] = leastSteps(all, 0, from, j)
			}
			got, err := Far(a, from)
			wantList(t, got, err, want)
		}
	}
}

// RE4: there is no such thing to come from.
func TestFarRefuses(t *testing.T) {
	for _, a := range relations() {
		for _, from := range []int{-1, -many(a), api.Least, many(a), many(a) + 1, 1 << 32, api.Greatest} {
			if from == 0 && many(a) > 0 {
				continue
			}
			if got, err := Far(a, from); len(got) != 0 || plain.Told(err) != api.ErrIndex {
				t.Errorf("Far(%v, %d): got %v, %v, want nothing, ErrIndex", a, from, got, err)
			}
		}
	}
}

// wrong is an array that is no relation, and what is told of it.
type wrong struct {
	a    api.Array
	want api.Errno
}

// filled is an array with x in each cell.
func filled(char bool, x, cells int, s ...int) api.Array {
	return api.Array{Char: char, Shape: s, Data: slices.Repeat([]int{x}, cells)}
}

// wrongArrays are those that Check refuses, and those that it does not. Where more
// than one thing is wrong, that which is named first is told.
func wrongArrays() []wrong {
	m := api.MaxCells
	var all []wrong
	for _, x := range []int{0, 1, 2} {
		for _, char := range []bool{false, true} {
			add := func(want api.Errno, cells int, s ...int) {
				all = append(all, wrong{filled(char, x, cells, s...), want})
			}
			add(api.ErrRank, 1, 1, 1, 1, 1, 1, 1, 1)
			add(api.ErrLength, 0, -1, -1)
			add(api.ErrLength, 4, -2, -2)
			add(api.ErrFull, 0, m+1, m+1)
			add(api.ErrFull, 65*65, 65, 65)
			add(api.ErrLength, 0)
			add(api.ErrLength, 3, 2, 2)
			add(api.ErrLength, 5, 2, 2)
			add(api.ErrLength, 1, 0, 0)
			add(api.ErrLength, 624, 25, 25)
			add(api.ErrLength, 3, 4)
			add(api.ErrRank, 1)
			add(api.ErrRank, 0, 0)
			add(api.ErrRank, 1, 1)
			add(api.ErrRank, 4, 4)
			add(api.ErrRank, m, m)
			add(api.ErrRank, 1, 1, 1, 1)
			add(api.ErrRank, 12, 3, 2, 2)
			add(api.ErrRank, 0, 0, 0, 0, 0, 0, 0)
			add(api.ErrRank, 625, 25, 25, 1)
			add(api.ErrLength, 6, 2, 3)
			add(api.ErrLength, 6, 3, 2)
			add(api.ErrLength, 0, 0, 1)
			add(api.ErrLength, 0, 1, 0)
			add(api.ErrLength, 0, 0, 25)
			add(api.ErrLength, 600, 24, 25)
			add(api.ErrLength, 600, 25, 24)
			add(api.ErrLength, 650, 25, 26)
			add(api.ErrLength, m, 1, m)
			add(api.ErrFull, 625, 25, 25)
			add(api.ErrFull, 676, 26, 26)
			add(api.ErrFull, m, 64, 64)
		}
	}
	return append(all, wrongCells()...)
}

// wrongCells are arrays in which what is wrong is in the cells.
func wrongCells() []wrong {
	var all []wrong
	for n := range api.MaxThings + 1 {
		all = append(all, wrong{filled(true, 0, n*n, n, n), api.ErrDomain}, wrong{filled(true, 1, n*n, n, n), api.ErrDomain})
		for _, x := range []int{2, -1, 3, 48, 256, 257, 1 << 32, 1<<32 + 1, api.Least, api.Least + 1, api.Greatest} {
			for _, place := range []int{0, n * n / 2, n*n - 1} {
				if n == 0 {
					continue
				}
				a := filled(false, 0, n*n, n, n)
				a.Data[place] = x
				all = append(all, wrong{a, api.ErrDomain})
			}
		}
	}
	// Check comes ahead of all else: a cell that is no character, whatever the axes
	// are.
	return append(all,
		wrong{filled(true, 55296, 1), api.ErrDomain},
		wrong{filled(true, -1, 2, 2), api.ErrDomain},
		wrong{filled(true, -1, 2, 1, 2), api.ErrDomain},
		wrong{filled(true, 1114112, 625, 25, 25), api.ErrDomain},
		wrong{filled(true, -1, 1, 1, 1, 1), api.ErrDomain})
}

// RE1: what is no relation, of all four, with nothing else told; also ahead of a
// thing that there is not, and of an order that there is not.
func TestWhatIsNoRelationIsRefused(t *testing.T) {
	for _, w := range wrongArrays() {
		closed, err := Close(w.a)
		if !same(closed, api.Array{}) || plain.Told(err) != w.want {
			t.Errorf("Close(%v): got %v, %v, want nothing, %v", w.a, closed, err, w.want)
		}
		for k, call := range []func(api.Array) ([]int, error){
			Classes,
			Order,
			func(a api.Array) ([]int, error) { return Far(a, 0) },
			func(a api.Array) ([]int, error) { return Far(a, -1) },
			func(a api.Array) ([]int, error) { return Far(a, api.Least) },
			func(a api.Array) ([]int, error) { return Far(a, api.Greatest) },
		} {
			got, err := call(w.a)
			if len(got) != 0 || plain.Told(err) != w.want {
				t.Errorf("call %d of %v: got %v, %v, want nothing, %v", k, w.a, got, err, w.want)
			}
		}
	}
}

// spoil writes over all memory that a list hands out.
func spoil(list []int) {
	list = list[:cap(list)]
	for i := range list {
		list[i] = -9
	}
}

// P2, P4: what is handed in stays as it is, behind its length too, and what comes
// out is fresh memory.
func TestListsAreNeitherWrittenNorShared(t *testing.T) {
	shapeWas, dataWas := []int{1, 1, 3, 3, -8}, []int{0, 1, 1, 0, 0, 1, 0, 0, 0, -9}
	shapeBack, dataBack := slices.Clone(shapeWas), slices.Clone(dataWas)
	for _, a := range []api.Array{
		{Shape: shapeBack[:2], Data: dataBack[:1]},
		{Shape: shapeBack[2:4], Data: dataBack[:9]},
	} {
		for k, call := range []func() (api.Array, error){
			func() (api.Array, error) { return Close(a) },
			func() (api.Array, error) { return ofList(Classes(a)) },
			func() (api.Array, error) { return ofList(Order(a)) },
			func() (api.Array, error) { return ofList(Far(a, 0)) },
		} {
			first, err := call()
			if err != nil {
				t.Fatal(k, err)
			}
			kept := api.Array{Shape: slices.Clone(first.Shape), Data: slices.Clone(first.Data)}
			spoil(first.Shape)
			if !slices.Equal(first.Data, kept.Data) {
				t.Errorf("call %d: its two lists share memory", k)
			}
			spoil(first.Data)
			again, err := call()
			wantArray(t, again, err, kept)
		}
	}
	if !slices.Equal(shapeBack, shapeWas) || !slices.Equal(dataBack, dataWas) {
		t.Errorf("written into: %v, %v", shapeBack, dataBack)
	}
}

// ofList lays a list that is told where an array's cells stand.
func ofList(list []int, err error) (api.Array, error) { return api.Array{Data: list}, err }
