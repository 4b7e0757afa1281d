package prim

import (
	"math"
	"slices"
	"testing"

	"ravelin/api"
	"ravelin/arr"
	"ravelin/cut"
	"ravelin/each"
	"ravelin/fold"
	"ravelin/grade"
	"ravelin/plain"
	"ravelin/prod"
	"ravelin/radix"
	"ravelin/seek"
	"ravelin/turn"
)

// nums and chars are arrays, written short.
func nums(s []int, data ...int) api.Array { return api.Array{Shape: s, Data: data} }

func chars(s []int, data ...int) api.Array { return api.Array{Char: true, Shape: s, Data: data} }

// list and text are arrays of numbers and of characters on one axis; num and char
// have no axes.
func list(data ...int) api.Array { return nums([]int{len(data)}, data...) }

func text(data ...int) api.Array { return chars([]int{len(data)}, data...) }

func num(n int) api.Array { return nums(nil, n) }

func char(c int) api.Array { return chars(nil, c) }

// is, over, along, outerOf, innerOf and swap are acts, written short.
func is(f api.Fn) api.Act { return api.Act{Op: api.Plain, F: f} }

func over(f api.Fn) api.Act { return api.Act{Op: api.Over, F: f} }

func along(f api.Fn) api.Act { return api.Act{Op: api.Along, F: f} }

func outerOf(f api.Fn) api.Act { return api.Act{Op: api.Outer, F: f} }

func innerOf(f, g api.Fn) api.Act { return api.Act{Op: api.Inner, F: f, G: g} }

func swap(f api.Fn) api.Act { return api.Act{Op: api.Swap, F: f} }

// upTo are the numbers from 0 to below n.
func upTo(n int) []int {
	var all []int
	for i := range n {
		all = append(all, i)
	}
	return all
}

func same(a, b api.Array) bool {
	return a.Char == b.Char && slices.Equal(a.Shape, b.Shape) && slices.Equal(a.Data, b.Data)
}

func brief(a api.Array) (bool, []int, []int) {
	return a.Char, a.Shape, a.Data[:min(len(a.Data), 20)]
}

// wantArray holds what an act tells against what it should tell.
func wantArray(t *testing.T, act api.Act, got api.Array, err error, want api.Array) {
	t.Helper()
	if !same(got, want) || err != nil {
		gc, gs, gd := brief(got)
		wc, ws, wd := brief(want)
		t.Errorf("%v: got %v %v %v, %v, want %v %v %v", act, gc, gs, gd, err, wc, ws, wd)
	}
}

// wantError holds what an act tells with an error against what it should tell.
func wantError(t *testing.T, act api.Act, got api.Array, err error, want api.Errno) {
	t.Helper()
	if !same(got, api.Array{}) || plain.Told(err) != want {
		c, s, d := brief(got)
		t.Errorf("%v: got %v %v %v, %v, want nothing, %v", act, c, s, d, err, want)
	}
}

// wantSame holds what an act tells, with its error, against what it should tell.
func wantSame(t *testing.T, act api.Act, got api.Array, err error, want api.Array, wantErr error) {
	t.Helper()
	if wantErr != nil {
		wantError(t, act, got, err, plain.Told(wantErr))
		return
	}
	wantArray(t, act, got, err, want)
}

// five are the functions of one cell, and sixteen those of two.
func five() []api.Fn { return []api.Fn{api.Add, api.Sub, api.Mul, api.Res, api.Not} }

func sixteen() []api.Fn {
	return []api.Fn{
		api.Add, api.Sub, api.Mul, api.Div, api.Res, api.Max, api.Min, api.Eq,
		api.Ne, api.Lt, api.Le, api.Ge, api.Gt, api.And, api.Or, api.Pow,
	}
}

// plainOnes and plainTwos are the functions that are something by themselves, of
// one array and of two.
func plainOnes() []api.Fn {
	return append(five(), api.Rho, api.Comma, api.Turn, api.Flip, api.Iota, api.Up, api.Down, api.Cup)
}

func plainTwos() []api.Fn {
	return append(sixteen(), api.Rho, api.Comma, api.Turn, api.Take, api.Drop, api.Iota, api.In,
		api.Not, api.Cup, api.Cap, api.Base, api.Anti, api.Same, api.Slash, api.Slope)
}

// others are functions, and numbers of none, that are not in a list.
func others(of []api.Fn) []api.Fn {
	rest := []api.Fn{math.MinInt, math.MaxInt}
	for f := api.Fn(-3); f <= api.Slope+3; f++ {
		if !slices.Contains(of, f) {
			rest = append(rest, f)
		}
	}
	return rest
}

// ones are the acts of one array that there are, G aside, and twos those of two.
func ones() []api.Act {
	var all []api.Act
	for _, f := range plainOnes() {
		all = append(all, is(f))
	}
	for _, f := range sixteen() {
		all = append(all, over(f), along(f))
	}
	for _, f := range plainTwos() {
		all = append(all, swap(f))
	}
	return all
}

func twos() []api.Act {
	var all []api.Act
	for _, f := range plainTwos() {
		all = append(all, is(f), swap(f))
	}
	for _, f := range sixteen() {
		all = append(all, over(f), outerOf(f))
		for _, g := range []api.Fn{api.Add, api.Sub, api.Mul, api.Div, api.Eq, api.Ne, api.Pow} {
			all = append(all, innerOf(f, g))
		}
	}
	return all
}

// strange are acts that are none, of one array or of two.
func strange() []api.Act {
	var all []api.Act
	for f := api.Fn(-1); f <= api.Slope+1; f++ {
		for _, op := range []int{math.MinInt, -1, api.Dfn, api.Self, 8, math.MaxInt} {
			all = append(all, api.Act{Op: op, F: f}, api.Act{Op: op, F: f, G: api.Add})
		}
	}
	return all
}

// notOnes and notTwos are acts that are none of one array, and none of two.
func notOnes() []api.Act {
	all := strange()
	for _, f := range others(plainOnes()) {
		all = append(all, is(f))
	}
	for _, f := range others(sixteen()) {
		all = append(all, over(f), along(f))
	}
	for _, f := range others(plainTwos()) {
		all = append(all, swap(f))
	}
	for _, f := range sixteen() {
		all = append(all, outerOf(f), innerOf(f, api.Mul))
	}
	return all
}

func notTwos() []api.Act {
	all := strange()
	for _, f := range others(plainTwos()) {
		all = append(all, is(f), swap(f))
	}
	for _, f := range others(sixteen()) {
		all = append(all, over(f), outerOf(f), innerOf(f, api.Mul), innerOf(api.Add, f), innerOf(f, f))
	}
	for _, f := range sixteen() {
		all = append(all, along(f))
	}
	return all
}

// wrong is an array with a fault, and what Check tells of it.
type wrong struct {
	a    api.Array
	want api.Errno
}

func wrongArrays() []wrong {
	m := api.MaxCells
	return []wrong{
		{nums([]int{1, 1, 1, 1, 1, 1, 1}, 5), api.ErrRank},
		{chars([]int{1, 1, 1, 1, 1, 1, -1}, -5), api.ErrRank},
		{nums([]int{-1}), api.ErrLength},
		{nums([]int{m + 1}, upTo(m+1)...), api.ErrFull},
		{chars([]int{m, 2}, -5), api.ErrFull},
		{api.Array{}, api.ErrLength},
		{chars(nil), api.ErrLength},
		{nums(nil, 1, 2), api.ErrLength},
		{nums([]int{0}, 1), api.ErrLength},
		{nums([]int{2}, 1), api.ErrLength},
		{nums([]int{2, 3}, 1, 2, 3, 4, 5), api.ErrLength},
		{chars([]int{1}, 55296), api.ErrDomain},
		{chars([]int{2, 1}, 97, 1114112), api.ErrDomain},
		{chars(nil, -1), api.ErrDomain},
	}
}

// arrays are right ones: with and without axes and cells, of numbers and of
// characters.
func arrays() []api.Array {
	m := api.MaxCells
	return []api.Array{
		num(0), num(1), num(2), num(3), num(-1), num(-2), num(m), num(m + 1), num(api.Least), num(api.Greatest),
		char(0), char(1), char(97),
		list(), list(0), list(1), list(3), list(-2), list(api.Least),
		list(1, 0), list(0, 1), list(2, 3), list(-2, 1), list(5, 5), list(api.Greatest, -7),
		list(1, 0, 1), list(3, 1, 2), list(0, 0, 0), list(10, 10, 10), list(1, 1, 1, 0),
		text(), text(1), text(97, 98), text(98, 97, 98),
		nums([]int{1, 1}, 4), nums([]int{1, 3}, 7, 8, 9), nums([]int{2, 3}, 6, 5, 4, 1, 2, 3),
		nums([]int{3, 2}, 1, 2, 1, 2, 0, 5), nums([]int{2, 2}, 1, 0, 0, 1), nums([]int{0, 2}), nums([]int{2, 0}),
		nums([]int{m, 0}), nums([]int{0, m, m}),
		chars([]int{2, 2}, 97, 98, 99, 97), chars([]int{0, 3}), chars([]int{3, 0}),
		nums([]int{2, 1, 3}, 1, 2, 3, 4, 5, 6), nums([]int{3, 0, 2}), nums([]int{1, 2, 1, 1, 1, 2}, 4, 3, 2, 1),
		chars([]int{1, 1, 1, 1, 1, 1}, 120),
	}
}

// listed is what tells numbers on one axis.
func listed(numbers []int, err error) (api.Array, error) {
	if err != nil {
		return api.Array{}, err
	}
	return list(numbers...), nil
}

// asLine is a, its one cell on one axis where it has none.
func asLine(a api.Array) api.Array {
	if len(a.Shape) == 0 {
		return api.Array{Char: a.Char, Shape: []int{1}, Data: a.Data}
	}
	return a
}

// needs tells of a function of two arrays how many axes a may have, at most, and
// how many b; 6 where any may be, of characters too.
func needs(act api.Act) (ofA, ofB int) {
	switch act.Op {
	case api.Over:
		return 0, 6
	case api.Plain:
		switch act.F {
		case api.Turn:
			return 0, 6
		case api.Rho, api.Take, api.Drop, api.Slash, api.Slope:
			return 1, 6
		case api.Base:
			return 1, 1
		case api.Anti:
			return 1, 0
		}
	}
	return 6, 6
}

// isNone tells why an array is no list, of up to so many axes, if it must be one.
func isNone(a api.Array, axes int) error {
	if axes == 6 {
		return nil
	}
	if len(a.Shape) > axes {
		return api.ErrRank
	}
	if a.Char {
		return api.ErrDomain
	}
	return nil
}

// one and two are what acts that there are tell of arrays that are right, by the
// words of PM1 to PM3.
func one(act api.Act, a api.Array) (api.Array, error) {
	last := len(a.Shape) - 1
	alongIt := act.Op == api.Over || act.Op == api.Along || act.Op == api.Plain && act.F == api.Turn
	if alongIt && last < 0 {
		return a, nil
	}
	switch act.Op {
	case api.Over:
		return fold.Reduce(act.F, last, a)
	case api.Along:
		return fold.Scan(act.F, last, a)
	case api.Swap:
		return two(is(act.F), a, a)
	}
	switch act.F {
	case api.Rho:
		return list(a.Shape...), nil
	case api.Comma:
		return api.Array{Char: a.Char, Shape: []int{len(a.Data)}, Data: a.Data}, nil
	case api.Turn:
		return turn.Reverse(last, a)
	case api.Flip:
		order := upTo(len(a.Shape))
		slices.Reverse(order)
		return turn.Flip(order, a)
	case api.Iota:
		if err := isNone(a, 0); err != nil {
			return api.Array{}, err
		}
		return arr.Iota(a.Data[0])
	case api.Up:
		return listed(grade.Up(a))
	case api.Down:
		return listed(grade.Down(a))
	case api.Cup:
		return seek.Nub(a)
	}
	return each.One(act.F, a)
}

func two(act api.Act, a, b api.Array) (api.Array, error) {
	switch act.Op {
	case api.Outer:
		return prod.Outer(act.F, a, b)
	case api.Inner:
		return prod.Inner(act.F, act.G, a, b)
	case api.Swap:
		return two(is(act.F), b, a)
	}
	ofA, ofB := needs(act)
	if err := isNone(a, ofA); err != nil {
		return api.Array{}, err
	}
	if err := isNone(b, ofB); err != nil {
		return api.Array{}, err
	}
	last := len(b.Shape) - 1
	if (act.Op == api.Over || act.F == api.Turn) && last < 0 {
		return b, nil
	}
	if (act.F == api.Slash || act.F == api.Slope) && last < 0 {
		return api.Array{}, api.ErrRank
	}
	if act.Op == api.Over {
		return fold.Windows(act.F, a.Data[0], last, b)
	}
	switch act.F {
	case api.Rho:
		return arr.Reshape(a.Data, b)
	case api.Comma:
		return cut.Join(len(asLine(a).Shape)-1, asLine(a), asLine(b))
	case api.Turn:
		return turn.Rotate(a.Data[0], last, b)
	case api.Take:
		return cut.Take(a.Data, b)
	case api.Drop:
		return cut.Drop(a.Data, b)
	case api.Slash:
		return cut.Keep(a.Data, last, b)
	case api.Slope:
		return cut.Spread(a.Data, last, b)
	}
	return twoMore(act.F, a, b)
}

func twoMore(f api.Fn, a, b api.Array) (api.Array, error) {
	switch f {
	case api.Iota:
		return seek.Index(a, b)
	case api.In:
		return seek.In(a, b)
	case api.Not:
		return seek.Without(a, b)
	case api.Cup:
		return seek.Union(a, b)
	case api.Cap:
		return seek.Meet(a, b)
	case api.Base:
		base := a.Data
		if len(a.Shape) == 0 {
			base = slices.Repeat(a.Data, len(b.Data))
		}
		n, err := radix.Value(base, b.Data)
		if err != nil {
			return api.Array{}, err
		}
		return num(n), nil
	case api.Anti:
		return listed(radix.Digits(a.Data, b.Data[0]))
	case api.Same:
		if same(a, b) {
			return num(1), nil
		}
		return num(0), nil
	}
	return each.Two(f, a, b)
}

// PM1: each act, of arrays whose answers are known.
func TestOneTells(t *testing.T) {
	six := nums([]int{2, 3}, 1, 2, 3, 40, 50, 60)
	for _, c := range []struct {
		act     api.Act
		a, want api.Array
	}{
		{is(api.Add), list(3, -1), list(3, -1)},
		{is(api.Sub), six, nums([]int{2, 3}, -1, -2, -3, -40, -50, -60)},
		{is(api.Mul), list(-9, 0, 9), list(-1, 0, 1)},
		{is(api.Res), list(-9, 0, 9), list(9, 0, 9)},
		{is(api.Not), num(1), num(0)},
		{is(api.Rho), six, list(2, 3)},
		{is(api.Rho), text(97, 98, 99), list(3)},
		{is(api.Rho), num(7), list()},
		{is(api.Rho), nums([]int{3, 0, 2}), list(3, 0, 2)},
		{is(api.Comma), six, list(1, 2, 3, 40, 50, 60)},
		{is(api.Comma), char(97), text(97)},
		{is(api.Comma), num(5), list(5)},
		{is(api.Comma), chars([]int{0, 3}), text()},
		{is(api.Turn), six, nums([]int{2, 3}, 3, 2, 1, 60, 50, 40)},
		{is(api.Turn), text(97, 98), text(98, 97)},
		{is(api.Flip), six, nums([]int{3, 2}, 1, 40, 2, 50, 3, 60)},
		{is(api.Flip), list(1, 2), list(1, 2)},
		{is(api.Flip), nums([]int{2, 1, 3}, 1, 2, 3, 4, 5, 6), nums([]int{3, 1, 2}, 1, 4, 2, 5, 3, 6)},
		{is(api.Flip), nums([]int{2, 2, 2}, 0, 1, 2, 3, 4, 5, 6, 7), nums([]int{2, 2, 2}, 0, 4, 2, 6, 1, 5, 3, 7)},
		{is(api.Flip), char(97), char(97)},
		{is(api.Iota), num(4), list(0, 1, 2, 3)},
		{is(api.Iota), num(0), list()},
		{is(api.Up), list(5, 3, 5, 1), list(3, 1, 0, 2)},
		{is(api.Up), text(99, 97, 98), list(1, 2, 0)},
		{is(api.Up), nums([]int{3, 2}, 2, 1, 1, 9, 2, 0), list(1, 2, 0)},
		{is(api.Up), list(), list()},
		{is(api.Down), list(5, 3, 5, 1), list(0, 2, 1, 3)},
		{is(api.Down), nums([]int{3, 2}, 2, 1, 1, 9, 2, 0), list(0, 2, 1)},
		{is(api.Cup), list(3, 1, 3, 2, 1), list(3, 1, 2)},
		{is(api.Cup), text(97, 98, 97), text(97, 98)},
		{over(api.Sub), list(1, 2, 3), num(2)},
		{over(api.Add), six, list(6, 150)},
		{over(api.Max), list(), num(api.Least)},
		{over(api.Eq), list(7), num(7)},
		{along(api.Add), six, nums([]int{2, 3}, 1, 3, 6, 40, 90, 150)},
		{along(api.Sub), list(1, 2, 3), list(1, -1, 2)},
		{along(api.Eq), list(), list()},
		{swap(api.Mul), list(3, 4), list(9, 16)},
		{swap(api.Sub), num(5), num(0)},
		{swap(api.Comma), num(5), list(5, 5)},
		{swap(api.Comma), six, nums([]int{2, 6}, 1, 2, 3, 1, 2, 3, 40, 50, 60, 40, 50, 60)},
		{swap(api.Rho), list(2, 3), nums([]int{2, 3}, 2, 3, 2, 3, 2, 3)},
		{swap(api.Not), list(1, 2), list()},
		{swap(api.Same), text(97), num(1)},
		{swap(api.Slash), list(1, 0, 1), list(1, 1)},
		{swap(api.Base), list(2, 3), num(9)},
		{swap(api.Eq), chars([]int{1, 2}, 97, 98), nums([]int{1, 2}, 1, 1)},
	} {
		got, err := One(c.act, c.a)
		wantArray(t, c.act, got, err, c.want)
	}
}

// PM1: along the last axis of an array without axes nothing is done, not even
// where the chapter of that function refuses such cells.
func TestOneAlongNoAxes(t *testing.T) {
	acts := []api.Act{is(api.Turn)}
	for _, f := range sixteen() {
		acts = append(acts, over(f), along(f))
	}
	for _, act := range acts {
		for _, a := range []api.Array{num(0), num(5), num(api.Least), char(0), char(97)} {
			got, err := One(act, a)
			wantArray(t, act, got, err, a)
		}
	}
}

// PM1: what the chapter of each function tells, with its errors, whatever G is.
func TestOneOfEachArray(t *testing.T) {
	for _, act := range ones() {
		for _, a := range arrays() {
			want, wantErr := one(act, a)
			for _, g := range []api.Fn{0, api.Add, api.Slope, -1, math.MaxInt} {
				act.G = g
				got, err := One(act, a)
				wantSame(t, act, got, err, want, wantErr)
				if err == nil && arr.Check(got) != nil {
					t.Errorf("%v of %v: what is told is wrong: %v", act, a, arr.Check(got))
				}
			}
		}
	}
}

// PM1: of arrays that are no numbers there are no first ones; ErrRank comes ahead
// of ErrDomain.
func TestOneIotaRefuses(t *testing.T) {
	m := api.MaxCells
	for _, c := range []struct {
		a    api.Array
		want api.Errno
	}{
		{list(3), api.ErrRank}, {list(), api.ErrRank}, {nums([]int{1, 1}, 3), api.ErrRank},
		{text(3), api.ErrRank}, {text(), api.ErrRank}, {list(-1), api.ErrRank}, {list(m + 1), api.ErrRank},
		{char(3), api.ErrDomain}, {char(m + 1), api.ErrDomain},
		{num(-1), api.ErrDomain}, {num(api.Least), api.ErrDomain},
		{num(m + 1), api.ErrFull}, {num(api.Greatest), api.ErrFull},
	} {
		got, err := One(is(api.Iota), c.a)
		wantError(t, is(api.Iota), got, err, c.want)
	}
	got, err := One(is(api.Iota), num(m))
	wantArray(t, is(api.Iota), got, err, list(upTo(m)...))
}

// PM1: the errors of the chapters, behind Check.
func TestOneRefusesCells(t *testing.T) {
	for _, c := range []struct {
		act  api.Act
		a    api.Array
		want api.Errno
	}{
		{is(api.Not), list(0, 2), api.ErrDomain},
		{is(api.Sub), text(97), api.ErrDomain},
		{is(api.Up), num(3), api.ErrRank},
		{is(api.Down), char(97), api.ErrRank},
		{is(api.Cup), num(3), api.ErrRank},
		{is(api.Cup), nums([]int{1, 1}, 3), api.ErrRank},
		{over(api.Add), text(97), api.ErrDomain},
		{over(api.Div), list(1, 0), api.ErrDomain},
		{over(api.Eq), list(), api.ErrDomain},
		{along(api.Add), text(), api.ErrDomain},
		{along(api.Pow), list(1, -1), api.ErrDomain},
		{swap(api.Div), list(1, 0), api.ErrDomain},
		{swap(api.Add), text(97), api.ErrDomain},
		{swap(api.Turn), list(1), api.ErrRank},
		{swap(api.Turn), char(97), api.ErrDomain},
		{swap(api.Slash), num(1), api.ErrRank},
		{swap(api.Slash), char(1), api.ErrDomain},
		{swap(api.Take), num(1), api.ErrLength},
		{swap(api.Anti), list(10), api.ErrRank},
		{swap(api.Rho), list(65, 64), api.ErrFull},
	} {
		got, err := One(c.act, c.a)
		wantError(t, c.act, got, err, c.want)
	}
}

// PM1: an act that is none, told ahead of Check and of all else.
func TestOneRefusesActs(t *testing.T) {
	all := append(arrays(), api.Array{})
	for _, w := range wrongArrays() {
		all = append(all, w.a)
	}
	for _, act := range notOnes() {
		for _, a := range all {
			got, err := One(act, a)
			wantError(t, act, got, err, api.ErrSyntax)
		}
	}
}

// PM3: arrays are checked, whatever is done with them.
func TestOneRefusesArrays(t *testing.T) {
	for _, act := range ones() {
		for _, w := range wrongArrays() {
			got, err := One(act, w.a)
			wantError(t, act, got, err, w.want)
		}
	}
}

// PM2: each act, of arrays whose answers are known.
func TestTwoTells(t *testing.T) {
	six := nums([]int{2, 3}, 1, 2, 3, 40, 50, 60)
	for _, c := range []struct {
		act        api.Act
		a, b, want api.Array
	}{
		{is(api.Sub), num(9), list(4, 5), list(5, 4)},
		{is(api.Div), list(7, -7), list(2, 2), list(3, -4)},
		{is(api.Res), num(3), six, nums([]int{2, 3}, 1, 2, 0, 1, 2, 0)},
		{is(api.Eq), text(97, 98), char(98), list(0, 1)},
		{is(api.Rho), list(2, 2), list(1, 2, 3), nums([]int{2, 2}, 1, 2, 3, 1)},
		{is(api.Rho), num(3), text(97, 98), text(97, 98, 97)},
		{is(api.Rho), list(), six, num(1)},
		{is(api.Rho), list(2), text(), text(32, 32)},
		{is(api.Comma), num(1), list(5, 6), list(1, 5, 6)},
		{is(api.Comma), list(5, 6), num(1), list(5, 6, 1)},
		{is(api.Comma), num(1), num(2), list(1, 2)},
		{is(api.Comma), char(97), text(98), text(97, 98)},
		{is(api.Comma), six, nums([]int{2, 1}, 7, 8), nums([]int{2, 4}, 1, 2, 3, 7, 40, 50, 60, 8)},
		{is(api.Turn), num(1), list(1, 2, 3), list(2, 3, 1)},
		{is(api.Turn), num(-1), six, nums([]int{2, 3}, 3, 1, 2, 60, 40, 50)},
		{is(api.Take), num(2), list(5, 6, 7), list(5, 6)},
		{is(api.Take), list(-1, 4), six, nums([]int{1, 4}, 40, 50, 60, 0)},
		{is(api.Take), list(), char(97), char(97)},
		{is(api.Drop), num(1), text(97, 98, 99), text(98, 99)},
		{is(api.Drop), list(1, -1), six, nums([]int{1, 2}, 40, 50)},
		{is(api.Iota), list(7, 8, 7), six, nums([]int{2, 3}, 3, 3, 3, 3, 3, 3)},
		{is(api.Iota), text(97, 98), text(98, 99), list(1, 2)},
		{is(api.In), six, list(50, 2), nums([]int{2, 3}, 0, 1, 0, 0, 1, 0)},
		{is(api.In), num(2), six, num(1)},
		{is(api.Not), list(1, 2, 1, 3), list(1), list(2, 3)},
		{is(api.Cup), list(1, 2), list(3, 2), list(1, 2, 3)},
		{is(api.Cap), list(1, 2, 1, 3), list(1, 3), list(1, 1, 3)},
		{is(api.Base), num(10), list(4, 7, 2), num(472)},
		{is(api.Base), list(24, 60, 60), list(1, 2, 3), num(3723)},
		{is(api.Base), num(10), num(5), num(5)},
		{is(api.Base), list(10), num(5), num(5)},
		{is(api.Base), num(10), list(), num(0)},
		{is(api.Base), list(), list(), num(0)},
		{is(api.Base), num(2), list(1, 0, 1, 1), num(11)},
		{is(api.Anti), list(24, 60, 60), num(3723), list(1, 2, 3)},
		{is(api.Anti), list(0, 10), num(1234), list(123, 4)},
		{is(api.Anti), num(10), num(1234), list(4)},
		{is(api.Anti), list(), num(1234), list()},
		{is(api.Same), six, six, num(1)},
		{is(api.Same), list(5), num(5), num(0)},
		{is(api.Same), text(), list(), num(0)},
		{is(api.Same), char(97), char(97), num(1)},
		{is(api.Slash), list(1, 0, 1), six, nums([]int{2, 2}, 1, 3, 40, 60)},
		{is(api.Slash), num(1), list(5), list(5)},
		{is(api.Slash), num(0), text(97), text()},
		{is(api.Slope), list(1, 0, 1, 1), six, nums([]int{2, 4}, 1, 0, 2, 3, 40, 0, 50, 60)},
		{is(api.Slope), list(0, 1), text(97), text(32, 97)},
		{is(api.Slope), num(1), list(5), list(5)},
		{is(api.Slope), num(0), list(), list(0)},
		{over(api.Add), num(2), list(1, 2, 3), list(3, 5)},
		{over(api.Sub), num(3), six, nums([]int{2, 1}, 2, 50)},
		{over(api.Max), num(1), six, six},
		{outerOf(api.Mul), list(1, 2), list(3, 4, 5), nums([]int{2, 3}, 3, 4, 5, 6, 8, 10)},
		{outerOf(api.Sub), num(9), num(4), num(5)},
		{innerOf(api.Add, api.Mul), six, list(1, 10, 100), list(321, 6540)},
		{innerOf(api.And, api.Eq), text(97, 98), text(97, 98), num(1)},
		{swap(api.Sub), num(1), num(5), num(4)},
		{swap(api.Rho), list(1, 2, 3), num(2), list(1, 2)},
		{swap(api.Comma), list(1, 2), list(3), list(3, 1, 2)},
		{swap(api.Turn), list(1, 2, 3), num(1), list(2, 3, 1)},
		{swap(api.Take), text(97, 98), num(-1), text(98)},
		{swap(api.Base), list(4, 7, 2), num(10), num(472)},
		{swap(api.Anti), num(3723), list(24, 60, 60), list(1, 2, 3)},
		{swap(api.Slash), list(5, 6), list(0, 1), list(6)},
		{swap(api.Not), list(1), list(1, 2, 1, 3), list(2, 3)},
	} {
		got, err := Two(c.act, c.a, c.b)
		wantArray(t, c.act, got, err, c.want)
	}
}

// PM1, PM2: along the last axis of an array without axes nothing is done, by
// whatever number; but what is no number is refused all the same.
func TestTwoAlongNoAxes(t *testing.T) {
	acts := []api.Act{is(api.Turn)}
	for _, f := range sixteen() {
		acts = append(acts, over(f))
	}
	for _, act := range acts {
		for _, b := range []api.Array{num(0), num(5), num(api.Least), char(0), char(97)} {
			for _, n := range []int{api.Least, -1, 0, 1, 2, api.MaxCells + 1, api.Greatest} {
				got, err := Two(act, num(n), b)
				wantArray(t, act, got, err, b)
			}
			for _, a := range []api.Array{list(1), list(), text(1), nums([]int{1, 1}, 1)} {
				got, err := Two(act, a, b)
				wantError(t, act, got, err, api.ErrRank)
			}
			got, err := Two(act, char(1), b)
			wantError(t, act, got, err, api.ErrDomain)
		}
	}
}

// PM2: what the chapter of each function tells, with its errors, whatever G is,
// but of Inner.
func TestTwoOfEachArray(t *testing.T) {
	for k, act := range twos() {
		for _, a := range arrays() {
			for _, b := range arrays() {
				want, wantErr := two(act, a, b)
				if act.Op != api.Inner {
					act.G = []api.Fn{0, api.Add, api.Slope, -1, math.MinInt}[k%5]
				}
				got, err := Two(act, a, b)
				wantSame(t, act, got, err, want, wantErr)
				if err == nil && arr.Check(got) != nil {
					t.Errorf("%v of %v and %v: what is told is wrong: %v", act, a, b, arr.Check(got))
				}
			}
		}
	}
}

// PM2: of Inner, G is by what the cells go together, for each two functions.
func TestTwoInnerOfEachFunction(t *testing.T) {
	a, b := nums([]int{2, 3}, 6, 5, 4, 1, 2, 3), nums([]int{3, 2}, 1, 2, 1, 2, 4, 5)
	for _, f := range sixteen() {
		for _, g := range sixteen() {
			want, wantErr := prod.Inner(f, g, a, b)
			got, err := Two(innerOf(f, g), a, b)
			wantSame(t, innerOf(f, g), got, err, want, wantErr)
		}
	}
}

// PM2: an act that is none, told ahead of Check and of all else.
func TestTwoRefusesActs(t *testing.T) {
	all := []api.Array{num(1), char(97), list(), list(1, 0), text(97), nums([]int{2, 2}, 1, 0, 0, 1)}
	for _, w := range wrongArrays() {
		all = append(all, w.a)
	}
	for _, act := range notTwos() {
		for _, a := range all {
			for _, b := range all {
				got, err := Two(act, a, b)
				wantError(t, act, got, err, api.ErrSyntax)
			}
		}
	}
}

// PM3: both arrays are checked, the first one first, of Swap too; ahead of what
// must be a list or a number.
func TestTwoRefusesArrays(t *testing.T) {
	right := []api.Array{num(1), char(97), list(), list(1, 0), text(97, 98), nums([]int{2, 2}, 1, 0, 0, 1), chars([]int{1, 1}, 97)}
	for _, act := range twos() {
		for _, w := range wrongArrays() {
			for _, r := range right {
				got, err := Two(act, w.a, r)
				wantError(t, act, got, err, w.want)
				got, err = Two(act, r, w.a)
				wantError(t, act, got, err, w.want)
			}
			for _, v := range wrongArrays() {
				got, err := Two(act, w.a, v.a)
				wantError(t, act, got, err, w.want)
			}
		}
	}
}

// notLists and notNumbers are right arrays that are none, and what is told of
// them: axes are looked at ahead of characters.
func notLists() []wrong {
	m := api.MaxCells
	return []wrong{
		{nums([]int{1, 1}, 1), api.ErrRank},
		{nums([]int{0, m}), api.ErrRank},
		{nums([]int{1, 1, 1, 1, 1, 1}, 1), api.ErrRank},
		{chars([]int{1, 1}, 1), api.ErrRank},
		{chars([]int{2, 0}), api.ErrRank},
		{text(1), api.ErrDomain},
		{text(), api.ErrDomain},
		{char(1), api.ErrDomain},
	}
}

func notNumbers() []wrong {
	return []wrong{
		{list(1), api.ErrRank},
		{list(), api.ErrRank},
		{nums([]int{1, 1}, 1), api.ErrRank},
		{chars([]int{1, 1}, 1), api.ErrRank},
		{text(1), api.ErrRank},
		{text(), api.ErrRank},
		{char(1), api.ErrDomain},
	}
}

// PM3: what must be a list, whatever the other array is, and ahead of what its
// chapter says of the other one.
func TestTwoRefusesLists(t *testing.T) {
	for _, f := range []api.Fn{api.Rho, api.Take, api.Drop, api.Slash, api.Slope, api.Base, api.Anti} {
		for _, w := range notLists() {
			for _, b := range arrays() {
				got, err := Two(is(f), w.a, b)
				wantError(t, is(f), got, err, w.want)
				got, err = Two(swap(f), b, w.a)
				wantError(t, swap(f), got, err, w.want)
			}
		}
	}
	for _, w := range notLists() {
		for _, a := range []api.Array{num(1), list(), list(1), list(10, 10, 10)} {
			got, err := Two(is(api.Base), a, w.a)
			wantError(t, is(api.Base), got, err, w.want)
			got, err = Two(swap(api.Base), w.a, a)
			wantError(t, swap(api.Base), got, err, w.want)
		}
	}
}

// PM3: what must be a number, so too.
func TestTwoRefusesNumbers(t *testing.T) {
	acts := []api.Act{is(api.Turn)}
	for _, f := range sixteen() {
		acts = append(acts, over(f))
	}
	for _, w := range notNumbers() {
		for _, b := range arrays() {
			for _, act := range acts {
				got, err := Two(act, w.a, b)
				wantError(t, act, got, err, w.want)
			}
			got, err := Two(swap(api.Turn), b, w.a)
			wantError(t, swap(api.Turn), got, err, w.want)
		}
		for _, a := range []api.Array{num(1), list(), list(1), list(10, 10, 10)} {
			got, err := Two(is(api.Anti), a, w.a)
			wantError(t, is(api.Anti), got, err, w.want)
			got, err = Two(swap(api.Anti), w.a, a)
			wantError(t, swap(api.Anti), got, err, w.want)
		}
	}
}

// PM3: of two such, a comes first, with both its errors; where the two change
// places, so do they here.
func TestTwoRefusesTheFirstFirst(t *testing.T) {
	for _, w := range notLists() {
		for _, v := range notLists() {
			got, err := Two(is(api.Base), w.a, v.a)
			wantError(t, is(api.Base), got, err, w.want)
			got, err = Two(swap(api.Base), v.a, w.a)
			wantError(t, swap(api.Base), got, err, w.want)
		}
		for _, v := range notNumbers() {
			got, err := Two(is(api.Anti), w.a, v.a)
			wantError(t, is(api.Anti), got, err, w.want)
			got, err = Two(swap(api.Anti), v.a, w.a)
			wantError(t, swap(api.Anti), got, err, w.want)
		}
	}
}

// PM3: along no axis nothing is kept and nothing spread; that is told behind what
// must be a list, and ahead of the mask's errors.
func TestTwoMasksRefuseNoAxes(t *testing.T) {
	for _, f := range []api.Fn{api.Slash, api.Slope} {
		for _, b := range []api.Array{num(1), num(5), char(97)} {
			for _, a := range []api.Array{num(1), num(0), num(2), list(), list(1), list(1, 0), list(7, 7)} {
				got, err := Two(is(f), a, b)
				wantError(t, is(f), got, err, api.ErrRank)
				got, err = Two(swap(f), b, a)
				wantError(t, swap(f), got, err, api.ErrRank)
			}
			for _, w := range notLists() {
				got, err := Two(is(f), w.a, b)
				wantError(t, is(f), got, err, w.want)
			}
		}
	}
}

// PM2: the errors of the chapters, behind those that PM3 names.
func TestTwoRefusesCells(t *testing.T) {
	m := api.MaxCells
	six := nums([]int{2, 3}, 1, 2, 3, 40, 50, 60)
	for _, c := range []struct {
		act  api.Act
		a, b api.Array
		want api.Errno
	}{
		{is(api.Add), list(1, 2), six, api.ErrRank},
		{is(api.Add), list(1, 2), list(1, 2, 3), api.ErrLength},
		{is(api.Div), num(1), list(1, 0), api.ErrDomain},
		{is(api.Lt), text(97), text(98), api.ErrDomain},
		{is(api.Rho), list(-1), six, api.ErrLength},
		{is(api.Rho), list(1, 1, 1, 1, 1, 1, 1), six, api.ErrRank},
		{is(api.Rho), num(m + 1), six, api.ErrFull},
		{is(api.Comma), six, num(1), api.ErrRank},
		{is(api.Comma), num(1), six, api.ErrRank},
		{is(api.Comma), list(1), six, api.ErrRank},
		{is(api.Comma), six, nums([]int{3, 1}, 1, 2, 3), api.ErrLength},
		{is(api.Comma), num(1), char(97), api.ErrDomain},
		{is(api.Comma), num(1), list(upTo(m)...), api.ErrFull},
		{is(api.Take), num(1), six, api.ErrLength},
		{is(api.Take), num(1), num(5), api.ErrLength},
		{is(api.Take), num(m + 1), list(1), api.ErrFull},
		{is(api.Drop), list(1, 1), list(1), api.ErrLength},
		{is(api.Drop), num(api.Least), num(5), api.ErrLength},
		{is(api.Iota), num(1), six, api.ErrRank},
		{is(api.Iota), six, num(1), api.ErrRank},
		{is(api.Not), num(1), list(1), api.ErrRank},
		{is(api.Not), list(1), num(1), api.ErrRank},
		{is(api.Cup), list(1), text(97), api.ErrDomain},
		{is(api.Cup), list(1), num(1), api.ErrRank},
		{is(api.Cap), six, list(1), api.ErrRank},
		{is(api.Base), list(10), list(1, 2), api.ErrLength},
		{is(api.Base), list(10, 10), list(1), api.ErrLength},
		{is(api.Base), list(10, 10), num(1), api.ErrLength},
		{is(api.Base), list(), num(1), api.ErrLength},
		{is(api.Slash), num(1), list(5, 6), api.ErrLength},
		{is(api.Slash), list(1, 0), six, api.ErrLength},
		{is(api.Slash), list(1, 0, 2), six, api.ErrDomain},
		{is(api.Slope), list(1, 0), six, api.ErrLength},
		{is(api.Slope), list(1, 2), list(5), api.ErrDomain},
		{over(api.Add), num(0), list(1, 2), api.ErrLength},
		{over(api.Add), num(4), six, api.ErrLength},
		{over(api.Add), num(1), text(97), api.ErrDomain},
		{over(api.Div), num(2), list(1, 0), api.ErrDomain},
		{outerOf(api.Add), list(upTo(65)...), list(upTo(64)...), api.ErrFull},
		{outerOf(api.Add), text(97), list(1), api.ErrDomain},
		{innerOf(api.Add, api.Mul), num(1), list(1), api.ErrRank},
		{innerOf(api.Add, api.Mul), six, list(1, 2), api.ErrLength},
		{innerOf(api.Eq, api.Mul), list(), list(), api.ErrDomain},
		{swap(api.Div), list(1, 0), num(1), api.ErrDomain},
		{swap(api.Iota), six, num(1), api.ErrRank},
	} {
		got, err := Two(c.act, c.a, c.b)
		wantError(t, c.act, got, err, c.want)
	}
}

// PM1, PM2: as many cells as there can be.
func TestManyCells(t *testing.T) {
	m := api.MaxCells
	long, wide := list(upTo(m)...), nums([]int{64, 64}, upTo(m)...)
	for _, act := range ones() {
		if act.Op == api.Along {
			continue
		}
		for _, a := range []api.Array{long, wide} {
			want, wantErr := one(act, a)
			got, err := One(act, a)
			wantSame(t, act, got, err, want, wantErr)
		}
	}
	for _, f := range plainTwos() {
		for _, p := range [][2]api.Array{{long, long}, {wide, wide}, {num(2), long}, {long, num(2)}, {list(64, 64), wide}, {list(-64, 64), long}} {
			want, wantErr := two(is(f), p[0], p[1])
			got, err := Two(is(f), p[0], p[1])
			wantSame(t, is(f), got, err, want, wantErr)
		}
	}
	got, err := Two(is(api.Base), num(1), list(slices.Repeat([]int{1}, m)...))
	wantArray(t, is(api.Base), got, err, num(m))
}

// spoil writes over all memory that an array hands out.
func spoil(a api.Array) {
	for _, list := range [][]int{a.Shape[:cap(a.Shape)], a.Data[:cap(a.Data)]} {
		for i := range list {
			list[i] = -9
		}
	}
}

// backed is an array whose lists have something behind their lengths.
type backed struct {
	array             api.Array
	shape, data       []int
	shapeWas, dataWas []int
}

func back(a api.Array) backed {
	s := append(slices.Clone(a.Shape), -8, -8)
	d := append(slices.Clone(a.Data), -9, -9)
	return backed{
		array: api.Array{Char: a.Char, Shape: s[:len(a.Shape)], Data: d[:len(a.Data)]},
		shape: s, data: d,
		shapeWas: slices.Clone(s), dataWas: slices.Clone(d),
	}
}

// holds tells if the array and what stands behind it is as it was.
func (b backed) holds() bool {
	return slices.Equal(b.shape, b.shapeWas) && slices.Equal(b.data, b.dataWas)
}

// wantFresh holds what a call tells against memory of others: its lists share
// none with each other, nor with what was handed in, nor with what is told again.
func wantFresh(t *testing.T, act api.Act, call func() (api.Array, error), given ...backed) {
	t.Helper()
	first, err := call()
	if err != nil {
		return
	}
	kept := api.Array{Char: first.Char, Shape: slices.Clone(first.Shape), Data: slices.Clone(first.Data)}
	spoil(api.Array{Shape: first.Shape})
	if !slices.Equal(first.Data, kept.Data) {
		t.Errorf("%v: its two lists share memory", act)
	}
	spoil(first)
	for _, b := range given {
		if !b.holds() {
			t.Errorf("%v: what is handed in is written into: %v, %v", act, b.shape, b.data)
		}
	}
	again, err := call()
	wantArray(t, act, again, err, kept)
}

// P2, P4: what is handed in stays as it is, behind its length too, and what comes
// out is fresh memory, of an array twice as well.
func TestListsAreNeitherWrittenNorShared(t *testing.T) {
	for _, act := range ones() {
		for _, a := range arrays() {
			b := back(a)
			wantFresh(t, act, func() (api.Array, error) { return One(act, b.array) }, b)
		}
	}
	few := []api.Array{
		num(1), num(2), char(97), list(), list(0), list(1), list(1, 0), list(2, 2), text(97, 98), text(),
		nums([]int{2, 2}, 1, 0, 0, 1), nums([]int{2, 1}, 1, 2), nums([]int{0, 2}), chars([]int{2, 2}, 97, 98, 99, 97),
	}
	for _, act := range twos() {
		for _, x := range few {
			for _, y := range few {
				a, b := back(x), back(y)
				wantFresh(t, act, func() (api.Array, error) { return Two(act, a.array, b.array) }, a, b)
			}
			a := back(x)
			wantFresh(t, act, func() (api.Array, error) { return Two(act, a.array, a.array) }, a)
		}
	}
}

// P3: an error of an act is one of the program's, and none is OK.
func TestErrorsAreOfTheProgram(t *testing.T) {
	for _, act := range append(twos(), notTwos()...) {
		for _, a := range []api.Array{num(1), list(1, 2), text(97), {}} {
			for _, b := range []api.Array{num(0), list(1, 2, 3), text(97), {}} {
				_, err := Two(act, a, b)
				if e := plain.Told(err); err != nil && (e < api.ErrSyntax || e > api.ErrState) {
					t.Errorf("%v: %v", act, err)
				}
			}
		}
	}
}
