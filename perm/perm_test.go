package perm

import (
	"slices"
	"testing"

	"ravelin/api"
	"ravelin/plain"
)

// lists hands f each list of n of the numbers from low to high.
func lists(n, low, high int, f func([]int)) {
	if n == 0 {
		f(nil)
		return
	}
	lists(n-1, low, high, func(head []int) {
		for x := low; x <= high; x++ {
			f(append(slices.Clone(head), x))
		}
	})
}

// orders are all orders of n numbers, the first place at which they differ
// deciding which one is ahead.
func orders(n int) [][]int {
	heads := [][]int{nil}
	for range n {
		var longer [][]int
		for _, head := range heads {
			for x := range n {
				if !slices.Contains(head, x) {
					longer = append(longer, append(slices.Clone(head), x))
				}
			}
		}
		heads = longer
	}
	return heads
}

// reversed is the order of n numbers from the greatest one on.
func reversed(n int) []int {
	p := upTo(n)
	slices.Reverse(p)
	return p
}

// moved is the order of n numbers in which each is as much further on, from the
// first one on again.
func moved(n, by int) []int {
	p := upTo(n)
	for i := range p {
		p[i] = (i + by) % n
	}
	return p
}

// blocks is the order with a cycle of each of these lengths, one behind another.
func blocks(lengths ...int) []int {
	var p []int
	for _, length := range lengths {
		first := len(p)
		for _, x := range moved(length, 1) {
			p = append(p, first+x)
		}
	}
	return p
}

// strewn is an order of n numbers without a plain rule.
func strewn(n int) []int {
	p := upTo(n)
	x := 7
	for i := n - 1; i > 0; i-- {
		x = (x*1103515245 + 12345) % (1 << 31)
		j := x >> 8 % (i + 1)
		p[i], p[j] = p[j], p[i]
	}
	return p
}

// great are orders that are too long to be gone through one and all.
func great() [][]int {
	m := api.MaxCells
	return [][]int{
		upTo(100), reversed(101), reversed(m), upTo(m), moved(m, 1), moved(m, m-1), moved(m, 6), moved(m-1, 1000),
		blocks(2, 3, 5, 7, 11, 13, 17, 19, 23), blocks(1, 4, 1, 6, 9, 1), strewn(50), strewn(999), strewn(m),
	}
}

// wrong is a list that is no order, and what Check tells of it.
type wrong struct {
	p    []int
	want api.Errno
}

func wrongOrders() []wrong {
	m := api.MaxCells
	return []wrong{
		{upTo(m + 1), api.ErrFull},
		{reversed(m + 1), api.ErrFull},
		{make([]int, m+1), api.ErrFull},
		{slices.Repeat([]int{-1}, 2*m), api.ErrFull},
		{[]int{1}, api.ErrDomain},
		{[]int{-1}, api.ErrDomain},
		{[]int{0, 0}, api.ErrDomain},
		{[]int{1, 1}, api.ErrDomain},
		{[]int{1, 2}, api.ErrDomain},
		{[]int{0, -1}, api.ErrDomain},
		{[]int{-1, 0, 1}, api.ErrDomain},
		{[]int{1, 2, 3}, api.ErrDomain},
		{[]int{0, 2, 2}, api.ErrDomain},
		{[]int{1, 2, 1}, api.ErrDomain},
		{[]int{api.Least}, api.ErrDomain},
		{[]int{api.Greatest}, api.ErrDomain},
		{[]int{1, 0, api.Least}, api.ErrDomain},
		{[]int{api.Greatest, 1, 0}, api.ErrDomain},
		{[]int{0, 1 << 32}, api.ErrDomain},
		{[]int{0, 1<<32 + 1}, api.ErrDomain},
		{make([]int, 13), api.ErrDomain},
		{make([]int, m), api.ErrDomain},
		{append(upTo(m-1), m), api.ErrDomain},
		{append(upTo(m-1), m-2), api.ErrDomain},
	}
}

func brief(p []int) []int { return p[:min(len(p), 20)] }

// wantList holds what is told against what should be.
func wantList(t *testing.T, got []int, err error, want []int) {
	t.Helper()
	if !slices.Equal(got, want) || err != nil {
		t.Errorf("got %v, %v, want %v", brief(got), err, brief(want))
	}
}

// wantNoList holds what is told with an error against what should be.
func wantNoList(t *testing.T, got []int, err error, want api.Errno) {
	t.Helper()
	if len(got) != 0 || plain.Told(err) != want {
		t.Errorf("got %v, %v, want nothing, %v", brief(got), err, want)
	}
}

// wantNumber holds a number that is told against what should be.
func wantNumber(t *testing.T, got int, err error, want int) {
	t.Helper()
	if got != want || err != nil {
		t.Errorf("got %d, %v, want %d", got, err, want)
	}
}

// wantNoNumber holds a number that is told with an error against what should be.
func wantNoNumber(t *testing.T, got int, err error, want api.Errno) {
	t.Helper()
	if got != 0 || plain.Told(err) != want {
		t.Errorf("got %d, %v, want 0, %v", got, err, want)
	}
}

// PE1: what is an order.
func TestCheckTakes(t *testing.T) {
	for _, p := range append(great(), nil, []int{}, []int{0}, []int{1, 0}, []int{1, 2, 0}) {
		if err := Check(p); err != nil {
			t.Errorf("Check(%v): got %v", brief(p), err)
		}
	}
}

// PE1: what is none, and which error comes first.
func TestCheckRefuses(t *testing.T) {
	for _, w := range wrongOrders() {
		if err := Check(w.p); plain.Told(err) != w.want {
			t.Errorf("Check(%v): got %v, want %v", brief(w.p), err, w.want)
		}
	}
}

// PE1: of all short lists the orders are taken, and no others.
func TestCheckTakesOrdersAlone(t *testing.T) {
	for n := range 6 {
		lists(n, -1, n, func(p []int) {
			sorted := slices.Clone(p)
			slices.Sort(sorted)
			want := api.ErrDomain
			if slices.Equal(sorted, upTo(n)) {
				want = api.OK
			}
			if err := Check(p); plain.Told(err) != want {
				t.Errorf("Check(%v): got %v, want %v", p, err, want)
			}
		})
	}
}

// PE1: at p[i] stands i.
func TestInverseTells(t *testing.T) {
	m := api.MaxCells
	for _, c := range []struct{ p, want []int }{
		{nil, nil},
		{[]int{}, nil},
		{[]int{0}, []int{0}},
		{[]int{1, 0}, []int{1, 0}},
		{[]int{1, 2, 0}, []int{2, 0, 1}},
		{[]int{3, 0, 2, 4, 1}, []int{1, 4, 2, 0, 3}},
		{upTo(m), upTo(m)},
		{moved(m, 1), moved(m, m-1)},
	} {
		got, err := Inverse(c.p)
		wantList(t, got, err, c.want)
	}
	for n := range 7 {
		for _, p := range orders(n) {
			got, err := Inverse(p)
			if len(got) != n || err != nil {
				t.Fatalf("Inverse(%v): got %v, %v", p, got, err)
			}
			for i, x := range p {
				if got[x] != i {
					t.Errorf("Inverse(%v): got %v", p, got)
				}
			}
		}
	}
}

// PE1: at i stands p[q[i]].
func TestAfterTells(t *testing.T) {
	m := api.MaxCells
	for _, c := range []struct{ p, q, want []int }{
		{nil, nil, nil},
		{nil, []int{}, nil},
		{[]int{0}, []int{0}, []int{0}},
		{[]int{1, 0}, []int{1, 0}, []int{0, 1}},
		{[]int{1, 2, 0}, []int{1, 0, 2}, []int{2, 1, 0}},
		{[]int{1, 0, 2}, []int{1, 2, 0}, []int{0, 2, 1}},
		{[]int{3, 0, 2, 4, 1}, []int{4, 3, 2, 1, 0}, []int{1, 4, 2, 0, 3}},
		{moved(m, 4000), moved(m, 100), moved(m, 4)},
	} {
		got, err := After(c.p, c.q)
		wantList(t, got, err, c.want)
	}
	for n := range 6 {
		for _, p := range orders(n) {
			for _, q := range orders(n) {
				want := make([]int, n)
				for i := range want {
					want[i] = p[q[i]]
				}
				got, err := After(p, q)
				wantList(t, got, err, want)
			}
		}
	}
}

// PE1: Check of p, of q, and their lengths at last.
func TestAfterRefuses(t *testing.T) {
	for _, w := range wrongOrders() {
		for _, q := range [][]int{nil, {0}, {1, 0}, upTo(len(w.p) % api.MaxCells), w.p} {
			got, err := After(w.p, q)
			wantNoList(t, got, err, w.want)
			if Check(q) == nil {
				got, err = After(q, w.p)
				wantNoList(t, got, err, w.want)
			}
		}
		for _, other := range wrongOrders() {
			got, err := After(w.p, other.p)
			wantNoList(t, got, err, w.want)
		}
	}
	m := api.MaxCells
	for _, c := range [][2][]int{
		{nil, {0}}, {{1, 0}, {0}}, {{1, 0}, {2, 1, 0}}, {upTo(m), upTo(m - 1)}, {reversed(m), nil},
	} {
		got, err := After(c[0], c[1])
		wantNoList(t, got, err, api.ErrLength)
		got, err = After(c[1], c[0])
		wantNoList(t, got, err, api.ErrLength)
	}
}

// PE1: orders of one length are a group.
func TestOrdersAreAGroup(t *testing.T) {
	all := orders(4)
	for _, p := range append(great(), all...) {
		inverse, _ := Inverse(p)
		for _, c := range []struct{ p, q, want []int }{
			{p, upTo(len(p)), p},
			{upTo(len(p)), p, p},
			{p, inverse, upTo(len(p))},
			{inverse, p, upTo(len(p))},
		} {
			got, err := After(c.p, c.q)
			wantList(t, got, err, c.want)
		}
	}
	for _, p := range all {
		for _, q := range all {
			pq, _ := After(p, q)
			for _, r := range all {
				qr, _ := After(q, r)
				want, _ := After(p, qr)
				got, err := After(pq, r)
				wantList(t, got, err, want)
			}
		}
	}
}

// slowPower is p, k times after another, by its words: for k from 0 on.
func slowPower(p []int, k int) []int {
	out := upTo(len(p))
	for range k {
		out, _ = After(p, out)
	}
	return out
}

// doubled is p, 2^k times after another.
func doubled(p []int, k int) []int {
	for range k {
		p, _ = After(p, p)
	}
	return p
}

// PE1: k times, and below 0 that of the inverse.
func TestPowerTells(t *testing.T) {
	for _, c := range []struct {
		p    []int
		k    int
		want []int
	}{
		{nil, 0, nil},
		{nil, 7, nil},
		{nil, api.Least, nil},
		{[]int{0}, api.Greatest, []int{0}},
		{[]int{1, 0}, 0, []int{0, 1}},
		{[]int{1, 0}, 1, []int{1, 0}},
		{[]int{1, 0}, 2, []int{0, 1}},
		{[]int{1, 0}, -1, []int{1, 0}},
		{[]int{1, 2, 0}, 1, []int{1, 2, 0}},
		{[]int{1, 2, 0}, 2, []int{2, 0, 1}},
		{[]int{1, 2, 0}, -1, []int{2, 0, 1}},
		{[]int{1, 2, 0}, -2, []int{1, 2, 0}},
		{[]int{1, 2, 0, 4, 3}, 3, []int{0, 1, 2, 4, 3}},
		{[]int{1, 2, 0, 4, 3}, -2, []int{1, 2, 0, 3, 4}},
	} {
		got, err := Power(c.p, c.k)
		wantList(t, got, err, c.want)
	}
	for n := range 6 {
		for _, p := range orders(n) {
			inverse, _ := Inverse(p)
			for k := range 14 {
				got, err := Power(p, k)
				wantList(t, got, err, slowPower(p, k))
				got, err = Power(p, -k)
				wantList(t, got, err, slowPower(inverse, k))
			}
		}
	}
}

// PE1: k may be any number. Greatest is one less than 2^63, and Least is 2^63
// times of the inverse.
func TestPowerTakesAnyNumber(t *testing.T) {
	for _, p := range append(great(), orders(5)...) {
		inverse, _ := Inverse(p)
		less, _ := After(doubled(p, 63), inverse)
		lessBack, _ := After(doubled(inverse, 63), p)
		for _, c := range []struct {
			k    int
			want []int
		}{
			{0, upTo(len(p))},
			{1, p},
			{-1, inverse},
			{1 << 10, doubled(p, 10)},
			{1 << 32, doubled(p, 32)},
			{-1 << 32, doubled(inverse, 32)},
			{1 << 62, doubled(p, 62)},
			{api.Greatest, less},
			{-api.Greatest, lessBack},
			{api.Least, doubled(inverse, 63)},
		} {
			got, err := Power(p, c.k)
			wantList(t, got, err, c.want)
		}
	}
}

// PE1, PE2: what is no order is refused, whatever else is asked.
func TestOthersRefuseWhatIsNoOrder(t *testing.T) {
	for _, w := range wrongOrders() {
		got, err := Inverse(w.p)
		wantNoList(t, got, err, w.want)
		for _, k := range []int{0, 1, -1, 2, api.Least, api.Greatest} {
			got, err = Power(w.p, k)
			wantNoList(t, got, err, w.want)
		}
		if list, err := Cycles(w.p); len(list) != 0 || plain.Told(err) != w.want {
			t.Errorf("Cycles(%v): got %v, %v, want nothing, %v", brief(w.p), list, err, w.want)
		}
		number, err := Sign(w.p)
		wantNoNumber(t, number, err, w.want)
		number, err = Rank(w.p)
		wantNoNumber(t, number, err, w.want)
	}
}

func sameLists(a, b [][]int) bool {
	return slices.EqualFunc(a, b, func(x, y []int) bool { return slices.Equal(x, y) })
}

// PE2: from a number on to the one that stands there.
func TestCyclesTells(t *testing.T) {
	m := api.MaxCells
	for _, c := range []struct {
		p    []int
		want [][]int
	}{
		{nil, nil},
		{[]int{0}, nil},
		{[]int{0, 1, 2}, nil},
		{upTo(m), nil},
		{[]int{1, 0}, [][]int{{0, 1}}},
		{[]int{1, 2, 0}, [][]int{{0, 1, 2}}},
		{[]int{2, 0, 1}, [][]int{{0, 2, 1}}},
		{[]int{0, 2, 1}, [][]int{{1, 2}}},
		{[]int{1, 0, 2, 4, 3}, [][]int{{0, 1}, {3, 4}}},
		{[]int{3, 2, 1, 0}, [][]int{{0, 3}, {1, 2}}},
		{[]int{4, 5, 0, 1, 2, 3}, [][]int{{0, 4, 2}, {1, 5, 3}}},
		{[]int{0, 6, 2, 5, 1, 3, 4}, [][]int{{1, 6, 4}, {3, 5}}},
		{moved(m, 1), [][]int{upTo(m)}},
	} {
		if got, err := Cycles(c.p); !sameLists(got, c.want) || err != nil {
			t.Errorf("Cycles(%v): got %v, %v, want %v", brief(c.p), got, err, c.want)
		}
	}
}

// slowCycles are the cycles of an order by PE2's words: a number's cycle is told
// where no number of it is less, and another one stands at it.
func slowCycles(p []int) [][]int {
	var out [][]int
	for first := range p {
		cycle := []int{first}
		for x := p[first]; x != first; x = p[x] {
			cycle = append(cycle, x)
		}
		if len(cycle) > 1 && slices.Min(cycle) == first {
			out = append(out, cycle)
		}
	}
	return out
}

// PE2: of all short orders, and of some long ones.
func TestCyclesByTheirWords(t *testing.T) {
	list := great()
	for n := range 8 {
		list = append(list, orders(n)...)
	}
	for _, p := range list {
		if got, err := Cycles(p); !sameLists(got, slowCycles(p)) || err != nil {
			t.Fatalf("Cycles(%v): got %v, %v, want %v", brief(p), got, err, slowCycles(p))
		}
	}
}

// slowSign is the sign of an order by PE2's words.
func slowSign(p []int) int {
	pairs := 0
	for i := range p {
		for _, x := range p[i+1:] {
			if p[i] > x {
				pairs++
			}
		}
	}
	if pairs%2 == 0 {
		return 1
	}
	return -1
}

// PE2: as the pairs in the wrong order are even in number or odd.
func TestSignTells(t *testing.T) {
	m := api.MaxCells
	for _, c := range []struct {
		p    []int
		want int
	}{
		{nil, 1},
		{[]int{0}, 1},
		{[]int{0, 1}, 1},
		{[]int{1, 0}, -1},
		{[]int{1, 0, 2}, -1},
		{[]int{1, 2, 0}, 1},
		{[]int{2, 1, 0}, -1},
		{[]int{3, 2, 1, 0}, 1},
		{[]int{1, 2, 3, 0}, -1},
		{[]int{1, 0, 3, 2}, 1},
		{upTo(m), 1},
		{moved(m, 1), -1},
		{moved(m-1, 1), 1},
	} {
		got, err := Sign(c.p)
		wantNumber(t, got, err, c.want)
	}
	list := great()
	for n := range 8 {
		list = append(list, orders(n)...)
	}
	for _, p := range list {
		got, err := Sign(p)
		wantNumber(t, got, err, slowSign(p))
	}
}

// PE2: the sign of one after another is the product of theirs.
func TestSignsMultiply(t *testing.T) {
	for _, p := range orders(5) {
		for _, q := range orders(5) {
			both, _ := After(p, q)
			a, _ := Sign(p)
			b, _ := Sign(q)
			got, err := Sign(both)
			wantNumber(t, got, err, a*b)
		}
	}
}

// PE3: of all orders of up to 8 numbers, in their order.
func TestRankAndUnrankCount(t *testing.T) {
	for n := range 9 {
		for k, p := range orders(n) {
			rank, err := Rank(p)
			wantNumber(t, rank, err, k)
			got, err := Unrank(n, k)
			wantList(t, got, err, p)
		}
	}
}

// PE3: orders of as many numbers as may be.
func TestRankAndUnrankOfGreatOnes(t *testing.T) {
	const all = 479001600 // orders of 12 numbers
	for _, c := range []struct {
		p    []int
		rank int
	}{
		{upTo(12), 0},
		{[]int{0, 1, 2, 3, 4, 5, 6, 7, 8, 9, 11, 10}, 1},
		{append([]int{0}, reversed(12)[:11]...), all/12 - 1},
		{[]int{1, 0, 2, 3, 4, 5, 6, 7, 8, 9, 10, 11}, all / 12},
		{append(append([]int{5}, reversed(12)[:6]...), 4, 3, 2, 1, 0), all/2 - 1},
		{[]int{6, 0, 1, 2, 3, 4, 5, 7, 8, 9, 10, 11}, all / 2},
		{moved(12, 11), all / 12 * 11},
		{reversed(12), all - 1},
		{reversed(11), all/12 - 1},
	} {
		rank, err := Rank(c.p)
		wantNumber(t, rank, err, c.rank)
		got, err := Unrank(len(c.p), c.rank)
		wantList(t, got, err, c.p)
	}
	var ahead []int
	for k := 0; k < all; k += 1234567 {
		p, err := Unrank(12, k)
		if Check(p) != nil || len(p) != 12 || err != nil || slices.Compare(ahead, p) >= 0 {
			t.Fatalf("Unrank(12, %d): got %v, %v, behind %v", k, p, err, ahead)
		}
		rank, err := Rank(p)
		wantNumber(t, rank, err, k)
		ahead = p
	}
}

// PE3: Check, and no more than MaxPerm numbers.
func TestRankRefuses(t *testing.T) {
	for _, p := range [][]int{upTo(13), reversed(13), upTo(20), upTo(21), reversed(100), upTo(api.MaxCells)} {
		got, err := Rank(p)
		wantNoNumber(t, got, err, api.ErrFull)
	}
	for _, p := range [][]int{make([]int, 13), append(upTo(12), 13), append(upTo(12), -1), make([]int, api.MaxCells)} {
		got, err := Rank(p)
		wantNoNumber(t, got, err, api.ErrDomain)
	}
}

// PE3: its errors, each ahead of those that are named behind it.
func TestUnrankRefuses(t *testing.T) {
	for _, k := range []int{0, 1, -1, api.Least, api.Greatest} {
		for _, n := range []int{-1, -2, -13, -1 << 32, api.Least} {
			got, err := Unrank(n, k)
			wantNoList(t, got, err, api.ErrDomain)
		}
		for _, n := range []int{13, 14, 20, 21, 1 << 32, api.Greatest} {
			got, err := Unrank(n, k)
			wantNoList(t, got, err, api.ErrFull)
		}
	}
	all := 1
	for n := range api.MaxPerm + 1 {
		all *= max(n, 1)
		for _, k := range []int{all, all + 1, 2 * all, 1 << 32, api.Greatest, -1, -2, min(1-all, -1), -all, -all - 1, -1 << 32, api.Least} {
			got, err := Unrank(n, k)
			wantNoList(t, got, err, api.ErrIndex)
		}
		got, err := Unrank(n, all-1)
		wantList(t, got, err, reversed(n))
		got, err = Unrank(n, 0)
		wantList(t, got, err, upTo(n))
	}
}

// spoil writes over all memory that a list hands out.
func spoil(list []int) {
	whole := list[:cap(list)]
	for i := range whole {
		whole[i] = -9
	}
}

// P2, P4: what is handed in stays as it is, behind its length too, and what
// comes out is fresh memory.
func TestListsAreNeitherWrittenNorShared(t *testing.T) {
	pBack, qBack := []int{1, 0, 2, 4, 5, 3, -7}, []int{5, 4, 3, 2, 1, 0, -8}
	p, q := pBack[:6], qBack[:6]
	Check(p)
	Sign(p)
	Rank(p)
	for k, tell := range []func() ([]int, error){
		func() ([]int, error) { return Inverse(p) },
		func() ([]int, error) { return Inverse(p[:0]) },
		func() ([]int, error) { return After(p, q) },
		func() ([]int, error) { return After(p, p) },
		func() ([]int, error) { return After(p[:2], p[:2]) },
		func() ([]int, error) { return After(p[:0], q[:0]) },
		func() ([]int, error) { return Power(p, 0) },
		func() ([]int, error) { return Power(p, 1) },
		func() ([]int, error) { return Power(p, -5) },
		func() ([]int, error) { return Power(p[:0], 1) },
		func() ([]int, error) { return Unrank(6, 700) },
		func() ([]int, error) { return Unrank(0, 0) },
	} {
		first, err := tell()
		if err != nil {
			t.Fatalf("call %d: %v", k, err)
		}
		kept := slices.Clone(first)
		spoil(first)
		again, err := tell()
		wantList(t, again, err, kept)
	}
	if !slices.Equal(pBack, []int{1, 0, 2, 4, 5, 3, -7}) || !slices.Equal(qBack, []int{5, 4, 3, 2, 1, 0, -8}) {
		t.Errorf("written into: %v, %v", pBack, qBack)
	}
}

// P2: no two cycles share memory, nor has it to do with that of the order.
func TestCyclesShareNothing(t *testing.T) {
	p := blocks(2, 3, 1, 5, 7, 2)
	kept := slices.Clone(p)
	want := slowCycles(p)
	for k := range want {
		got, err := Cycles(p)
		if err != nil {
			t.Fatal(err)
		}
		spoil(got[k])
		for other := range got {
			if other != k && !slices.Equal(got[other], want[other]) {
				t.Errorf("cycles %d and %d share memory", k, other)
			}
		}
	}
	if got, err := Cycles(p); !sameLists(got, want) || err != nil || !slices.Equal(p, kept) {
		t.Errorf("got %v, %v, want %v of %v", got, err, want, p)
	}
}

// No more cycles come once one stops, and all of them come again.
func TestCyclesStop(t *testing.T) {
	all := cycles([]int{1, 0, 2, 4, 3, 6, 5})
	for range 2 {
		var got [][]int
		for cycle := range all {
			got = append(got, cycle)
			if len(got) == 2 {
				break
			}
		}
		if !sameLists(got, [][]int{{0, 1}, {3, 4}}) {
			t.Errorf("got %v", got)
		}
	}
}
