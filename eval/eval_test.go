package eval_test

import (
	"fmt"
	"math"
	"reflect"
	"slices"
	"strings"
	"testing"

	"ravelin/api"
	"ravelin/arr"
	"ravelin/eval"
	"ravelin/lex"
	"ravelin/pick"
	"ravelin/plain"
	"ravelin/prim"
	"ravelin/tree"
)

// nums and chars are arrays, written short.
func nums(s []int, data ...int) api.Array { return api.Array{Shape: s, Data: data} }

func chars(s []int, data ...int) api.Array { return api.Array{Char: true, Shape: s, Data: data} }

// list and num are arrays of numbers on one axis, and without axes.
func list(data ...int) api.Array { return nums([]int{len(data)}, data...) }

func num(n int) api.Array { return nums(nil, n) }

// bind gives a name its value.
func bind(name string, value api.Array) api.Bind { return api.Bind{Name: name, Value: value} }

// space is a workspace, made anew.
func space() []api.Bind {
	return []api.Bind{
		bind("v", list(3, 1, 2)),
		bind("n", num(5)),
		bind("m", nums([]int{2, 3}, 1, 2, 3, 4, 5, 6)),
		bind("s", chars([]int{3}, 'a', 'b', 'c')),
		bind("one", chars(nil, 1)),
		bind("none", nums([]int{0})),
	}
}

// full is a workspace of so many names.
func full(n int) []api.Bind {
	var ws []api.Bind
	for i := range n {
		ws = append(ws, bind(fmt.Sprint("x", i), num(i)))
	}
	return ws
}

func same(a, b api.Array) bool {
	return a.Char == b.Char && slices.Equal(a.Shape, b.Shape) && slices.Equal(a.Data, b.Data)
}

func sameSpace(a, b []api.Bind) bool {
	return slices.EqualFunc(a, b, func(x, y api.Bind) bool { return x.Name == y.Name && same(x.Value, y.Value) })
}

// said is the tree of a line.
func said(t *testing.T, line string) []api.Node {
	t.Helper()
	words, at, err := lex.Read(line)
	if err != nil {
		t.Fatalf("Read(%q): got %d, %v", line, at, err)
	}
	nodes, at, err := tree.Parse(words)
	if err != nil {
		t.Fatalf("Parse(%q): got %d, %v", line, at, err)
	}
	return nodes
}

// wantValue holds the value of a line, and the steps that it takes, against what
// they should be: with so much fuel it is told, with less it is not.
func wantValue(t *testing.T, line string, steps int, want api.Array) {
	t.Helper()
	nodes := said(t, line)
	for more := range 3 {
		value, left, err := eval.Value(space(), nodes, steps+more)
		if !same(value, want) || left != more || err != nil {
			t.Errorf("%s: got %v, %d, %v, want %v, %d", line, value, left, err, want, more)
		}
	}
	for fuel := -2; fuel < steps; fuel++ {
		wantFault(t, line, fuel, api.ErrLimit)
	}
}

// wantError holds the error of a line, and the steps that are taken ahead of it,
// against what they should be.
func wantError(t *testing.T, line string, steps int, want api.Errno) {
	t.Helper()
	for more := range 3 {
		wantFault(t, line, steps+more, want)
	}
	for fuel := -2; fuel < steps; fuel++ {
		wantFault(t, line, fuel, api.ErrLimit)
	}
}

// wantFault holds what is told of a line with so much fuel against an error.
func wantFault(t *testing.T, line string, fuel int, want api.Errno) {
	t.Helper()
	nodes := said(t, line)
	value, left, err := eval.Value(space(), nodes, fuel)
	if !same(value, api.Array{}) || left != 0 || plain.Told(err) != want {
		t.Errorf("Value of %s, %d: got %v, %d, %v, want nothing, 0, %v", line, fuel, value, left, err, want)
	}
	ws, value, err := eval.Line(space(), nodes, fuel)
	if len(ws) > 0 || !same(value, api.Array{}) || plain.Told(err) != want {
		t.Errorf("Line of %s, %d: got %v, %v, %v, want nothing, %v", line, fuel, ws, value, err, want)
	}
}

// EV1: what a workspace is.
func TestCheck(t *testing.T) {
	right := [][]api.Bind{nil, {}, space(), full(1), full(19), full(20),
		{bind("a", num(1)), bind("A", num(1)), bind("a_", num(1)), bind("aa", num(1))},
		{bind("z9_Z", list()), bind("twelve_bytes", chars([]int{2, 1}, 0, 1114111))},
		{bind("a", nums([]int{64, 64}, make([]int, 4096)...))},
	}
	for _, ws := range right {
		if err := eval.Check(ws); err != nil {
			t.Errorf("Check(%v): got %v, want nil", ws, err)
		}
	}
	wrong := []struct {
		ws   []api.Bind
		want api.Errno
	}{
		{full(21), api.ErrFull},
		{full(25), api.ErrFull},
		{make([]api.Bind, 21), api.ErrFull},
		{make([]api.Bind, 20), api.ErrSyntax},
		{[]api.Bind{bind("", num(1))}, api.ErrSyntax},
		{[]api.Bind{bind("_", num(1))}, api.ErrSyntax},
		{[]api.Bind{bind("1a", num(1))}, api.ErrSyntax},
		{[]api.Bind{bind("a b", num(1))}, api.ErrSyntax},
		{[]api.Bind{bind(" a", num(1))}, api.ErrSyntax},
		{[]api.Bind{bind("a ", num(1))}, api.ErrSyntax},
		{[]api.Bind{bind("é", num(1))}, api.ErrSyntax},
		{[]api.Bind{bind("a\x00", num(1))}, api.ErrSyntax},
		{[]api.Bind{bind("a\xff", num(1))}, api.ErrSyntax},
		{[]api.Bind{bind("'a'", num(1))}, api.ErrSyntax},
		{[]api.Bind{bind("⍵", num(1))}, api.ErrSyntax},
		{[]api.Bind{bind("a⍝", num(1))}, api.ErrSyntax},
		{[]api.Bind{bind("thirteenbytes", num(1))}, api.ErrSyntax},
		{[]api.Bind{bind(strings.Repeat("a", 5000), num(1))}, api.ErrSyntax},
		{[]api.Bind{bind("a", num(1)), bind("b", num(1)), bind("a", num(1))}, api.ErrState},
		{[]api.Bind{bind("a", nums(make([]int, 7)))}, api.ErrRank},
		{[]api.Bind{bind("a", api.Array{})}, api.ErrLength},
		{[]api.Bind{bind("a", nums([]int{-1}))}, api.ErrLength},
		{[]api.Bind{bind("a", nums([]int{2}, 1))}, api.ErrLength},
		{[]api.Bind{bind("a", nums([]int{4097}, make([]int, 4097)...))}, api.ErrFull},
		{[]api.Bind{bind("a", chars(nil, 55296))}, api.ErrDomain},
	}
	for _, c := range wrong {
		if err := eval.Check(c.ws); plain.Told(err) != c.want {
			t.Errorf("Check(%v): got %v, want %v", c.ws, err, c.want)
		}
	}
}

// EV1: names are looked at one by one, each with its name first.
func TestCheckFirstWrong(t *testing.T) {
	good, unnamed, again := bind("a", num(1)), bind("", api.Array{}), bind("a", api.Array{})
	uneven := bind("b", chars([]int{2}, -1))
	wrong := []struct {
		ws   []api.Bind
		want api.Errno
	}{
		{[]api.Bind{good, unnamed, again, uneven}, api.ErrSyntax},
		{[]api.Bind{good, again, unnamed, uneven}, api.ErrState},
		{[]api.Bind{good, uneven, again, unnamed}, api.ErrLength},
		{[]api.Bind{unnamed, unnamed}, api.ErrSyntax},
		{[]api.Bind{uneven, uneven}, api.ErrLength},
		{append(full(20), unnamed), api.ErrFull},
		{append(full(19), bind("x0", num(1))), api.ErrState},
		{append(full(19), bind("x18", api.Array{})), api.ErrState},
	}
	for _, c := range wrong {
		if err := eval.Check(c.ws); plain.Told(err) != c.want {
			t.Errorf("Check(%v): got %v, want %v", c.ws, err, c.want)
		}
	}
}

// EV2: parts that have no parts.
func TestAtoms(t *testing.T) {
	wantValue(t, "4", 2, num(4))
	wantValue(t, "¯9223372036854775808", 2, num(math.MinInt))
	wantValue(t, "1 2", 2, list(1, 2))
	wantValue(t, "0 0 0", 2, list(0, 0, 0))
	wantValue(t, "'a'", 2, chars(nil, 'a'))
	wantValue(t, "'⍵'", 2, chars(nil, 9077))
	wantValue(t, "''''", 2, chars(nil, 39))
	wantValue(t, "''", 2, chars([]int{0}))
	wantValue(t, "'ab⍵'", 2, chars([]int{3}, 'a', 'b', 9077))
	wantValue(t, "n", 2, num(5))
	wantValue(t, "m", 2, nums([]int{2, 3}, 1, 2, 3, 4, 5, 6))
	wantValue(t, "one", 2, chars(nil, 1))
	wantValue(t, "none", 2, list())
	wantError(t, "q", 1, api.ErrName)
	wantError(t, "N", 1, api.ErrName)
	wantError(t, "vv", 1, api.ErrName)
	wantError(t, "on", 1, api.ErrName)
}

// EV2: functions, and indices.
func TestActs(t *testing.T) {
	wantValue(t, "-3", 3, num(-3))
	wantValue(t, "2+3", 4, num(5))
	wantValue(t, "8-4-3", 6, num(7))
	wantValue(t, "(8-4)-3", 6, num(1))
	wantValue(t, "⍴m", 3, list(2, 3))
	wantValue(t, "+/m", 3, list(6, 15))
	wantValue(t, "+\\v", 3, list(3, 4, 6))
	wantValue(t, "×⍨v", 3, list(9, 1, 4))
	wantValue(t, "1-⍨v", 4, list(2, 0, 1))
	wantValue(t, "2+/v", 4, list(4, 3))
	wantValue(t, "v∘.-0 1", 4, nums([]int{3, 2}, 3, 2, 1, 0, 2, 1))
	wantValue(t, "m+.×v", 4, list(11, 29))
	wantValue(t, "v[0]", 4, num(3))
	wantValue(t, "v[⍋v]", 5, list(1, 2, 3))
	wantValue(t, "m[1;2 0]", 5, list(6, 4))
	wantValue(t, "m[0 1;,1]", 6, nums([]int{2, 1}, 2, 5))
	wantValue(t, "s[2 0][0]", 6, chars(nil, 'c'))
	wantValue(t, "(v+1)[v-1]", 8, list(3, 4, 2))
	wantError(t, "1 2+1 2 3", 3, api.ErrLength)
	wantError(t, "1+s", 3, api.ErrDomain)
	wantError(t, "⊥v", 2, api.ErrSyntax)
	wantError(t, "1⍋v", 3, api.ErrSyntax)
	wantError(t, "⍴/m", 2, api.ErrSyntax)
	wantError(t, "v[3]", 3, api.ErrIndex)
	wantError(t, "m[0]", 3, api.ErrRank)
	wantError(t, "n[0]", 3, api.ErrRank)
	wantError(t, "v[s]", 3, api.ErrDomain)
	wantError(t, "64 65⍴1", 3, api.ErrFull)
	wantError(t, "1+⍳s", 2, api.ErrRank)
}

// EV2: the last part is told first, and its error with it; the step of a part is
// behind those of its parts, and ahead of what it does itself.
func TestOrder(t *testing.T) {
	wantError(t, "q+⍳'a'", 2, api.ErrDomain)
	wantError(t, "(⍳'a')+q", 1, api.ErrName)
	wantError(t, "q+1", 2, api.ErrName)
	wantError(t, "(1÷0)-1+q", 1, api.ErrName)
	wantError(t, "q-1÷0", 3, api.ErrDomain)
	wantError(t, "q[⍳'a']", 2, api.ErrDomain)
	wantError(t, "v[⍳'a';q]", 1, api.ErrName)
	wantError(t, "m[q;⍳'a']", 2, api.ErrDomain)
	wantError(t, "q[⍳'a';0]", 3, api.ErrDomain)
	wantError(t, "q[0;1]", 3, api.ErrName)
	wantError(t, "(⍳'a'){1}q", 1, api.ErrName)
	wantError(t, "q{1}⍳'a'", 2, api.ErrDomain)
	wantError(t, "q{1÷0}3", 2, api.ErrName)
	wantError(t, "⊥q", 1, api.ErrName)
}

// EV2: as many Numbers as one likes stand in a tree, but no more in a list than
// an array may have.
func TestLongList(t *testing.T) {
	most := slices.Repeat([]int{7}, api.MaxCells)
	value, left, err := eval.Value(nil, []api.Node{{Op: api.IsNums, Nums: most}}, 3)
	if !same(value, list(most...)) || left != 1 || err != nil {
		t.Errorf("Value of most: got %d cells, %d, %v", len(value.Data), left, err)
	}
	for fuel, want := range []api.Errno{api.ErrLimit, api.ErrFull, api.ErrFull} {
		value, left, err = eval.Value(nil, []api.Node{{Op: api.IsNums, Nums: append(most, 7)}}, fuel)
		if !same(value, api.Array{}) || left != 0 || plain.Told(err) != want {
			t.Errorf("Value of too many, %d: got %d cells, %d, %v, want %v", fuel, len(value.Data), left, err, want)
		}
	}
}

// EV3: calls of functions that are written out.
func TestCalls(t *testing.T) {
	wantValue(t, "{⍵}7", 5, num(7))
	wantValue(t, "{5}7", 5, num(5))
	wantValue(t, "v{⍺}7", 6, list(3, 1, 2))
	wantValue(t, "v{⍵}7", 6, num(7))
	wantValue(t, "8{⍺-⍵}3", 8, num(5))
	wantValue(t, "{v}n", 5, list(3, 1, 2))
	wantValue(t, "{⍵[0]}s", 7, chars(nil, 'a'))
	wantValue(t, "1{⍺}2{⍺}3", 10, num(1))
	wantValue(t, "{⍵+1}{⍵×2}5", 12, num(11))
	wantError(t, "{⍺}1", 3, api.ErrName)
	wantError(t, "{⍺+⍵}1", 4, api.ErrName)
	wantError(t, "{⍵+⍺}1", 3, api.ErrName)
	wantError(t, "{⍵÷0}1", 5, api.ErrDomain)
	wantError(t, "{q}1", 3, api.ErrName)
	wantError(t, "{1}q", 1, api.ErrName)
}

// EV3: conditions.
func TestConditions(t *testing.T) {
	wantValue(t, "{⍵:3⋄4}1", 7, num(3))
	wantValue(t, "{⍵:3⋄4}0", 7, num(4))
	wantValue(t, "{⍵=0:3⋄⍵=1:v⋄s}0", 9, num(3))
	wantValue(t, "{⍵=0:3⋄⍵=1:v⋄s}1", 13, list(3, 1, 2))
	wantValue(t, "{⍵=0:3⋄⍵=1:v⋄s}2", 13, chars([]int{3}, 'a', 'b', 'c'))
	wantValue(t, "{1:2⋄q:3⋄4}0", 7, num(2))
	wantValue(t, "{0:q⋄1:5⋄q}0", 9, num(5))
	wantValue(t, "{0:q⋄0:q⋄6}0", 9, num(6))
	wantValue(t, "{v≡⌽⌽v:⍵⋄q}0", 11, num(0))
	wantError(t, "{q:1⋄2}0", 3, api.ErrName)
	wantError(t, "{0:1⋄q:2⋄3}0", 5, api.ErrName)
	wantError(t, "{1:q⋄2}0", 5, api.ErrName)
	for _, wrong := range []string{"2", "¯1", "1 1", "0 0", "v", "m", "none", "s", "''", "'a'", "one", "9223372036854775807"} {
		wantError(t, "{"+wrong+":1⋄2}0", 4, api.ErrDomain)
		wantError(t, "{0:1⋄"+wrong+":2⋄3}0", 6, api.ErrDomain)
	}
	wantError(t, "{,1:1⋄2}0", 5, api.ErrDomain)
	wantError(t, "{1 1⍴1:1⋄2}0", 6, api.ErrDomain)
	wantValue(t, "{(,1)[0]:1⋄2}0", 10, num(1))
}

// EV3: Alpha, Omega and Self belong to the innermost function about them.
func TestInnermost(t *testing.T) {
	wantValue(t, "{⍵=0:1⋄⍵×∇⍵-1}5", 64, num(120))
	wantValue(t, "12{⍵=0:⍺⋄⍵∇⍵|⍺}18", 40, num(6))
	wantValue(t, "{{⍵=0:7⋄∇⍵-1}⍵}2", 30, num(7))
	wantValue(t, "{({⍵+1}⍵)+⍵}5", 12, num(11))
	wantValue(t, "{⍵+{⍵+1}⍵}5", 12, num(11))
	wantValue(t, "1{(3{⍺-⍵}⍺)+⍵}9", 14, num(11))
	wantValue(t, "1{⍺{⍺-⍵}⍵}9", 12, num(-8))
	wantError(t, "1{{⍺}⍵}2", 6, api.ErrName)
	wantError(t, "{⍵{⍺}⍺}2", 3, api.ErrName)
	wantError(t, "1{⍵=0:⍺⋄∇0}2", 14, api.ErrName)
	wantValue(t, "{⍵=0:5⋄⍵=1:⍺⋄3∇1}2", 25, num(3))
	wantError(t, "{⍵=0:5⋄⍵=1:⍺⋄3∇1}1", 11, api.ErrName)
	wantValue(t, "1{{⍵=0:⍵⋄∇0}⍵+⍺}2", 22, num(0))
}

// EV3: so many calls go on, and no more; those that are over do not count.
func TestMaxCalls(t *testing.T) {
	const deep = "{⍵=0:0⋄∇⍵-1}"
	// Of the number n: a step for it and for the line; n calls of 9 steps, and one of 7.
	wantValue(t, deep+"48", 2+48*9+7, num(0))
	wantValue(t, deep+"49", 2+49*9+7, num(0))
	wantError(t, deep+"50", 1+50*8+1, api.ErrLimit)
	wantFault(t, deep+"50", math.MaxInt, api.ErrLimit)
	wantFault(t, "{"+deep+"⍵}49", math.MaxInt, api.ErrLimit)
	wantFault(t, "{∇⍵}1", math.MaxInt, api.ErrLimit)
	wantFault(t, "1{⍺∇⍵}1", math.MaxInt, api.ErrLimit)
	wantFault(t, "{∇⍵:1⋄2}1", math.MaxInt, api.ErrLimit)
	wantFault(t, "{1:∇⍵⋄2}1", math.MaxInt, api.ErrLimit)
	wantValue(t, strings.Repeat("{⍵}", 60)+"1", 1+60*3+1, num(1))
	wantValue(t, "{0}"+deep+"49", 2+49*9+7+3, num(0))
	wantValue(t, deep+"49+"+deep+"49", 4+2*(49*9+7), num(0))
	wantValue(t, "("+deep+"49)+"+deep+"49", 4+2*(49*9+7), num(0))
	// What a call is given is told ahead of it: nothing of that goes on in it.
	wantValue(t, "{{⍵=0:0⋄∇⍵-1}⍵:1⋄2}48", 2+48*9+7+5, num(2))
	wantFault(t, "{{⍵=0:0⋄∇⍵-1}⍵:1⋄2}49", math.MaxInt, api.ErrLimit)
	wantValue(t, "{⍵}{⍵=0:0⋄∇⍵-1}49", 2+49*9+7+3, num(0))
	// The last part of the 51st call is wrong ahead of the call.
	wantFault(t, "{⍵=0:∇q⋄∇⍵-1}49", math.MaxInt, api.ErrName)
	wantFault(t, "{⍵=0:∇1⋄∇⍵-1}49", math.MaxInt, api.ErrLimit)
	wantFault(t, "{⍵=0:∇1⋄∇⍵-1}48", math.MaxInt, api.ErrLimit)
	wantFault(t, "{⍵=0:{q}1⋄∇⍵-1}49", math.MaxInt, api.ErrLimit)
	wantFault(t, "{⍵=0:{q}1⋄∇⍵-1}48", math.MaxInt, api.ErrName)
}

// EV4: Value tells how much fuel is left.
func TestFuel(t *testing.T) {
	for _, fuel := range []int{2, 3, 100, math.MaxInt} {
		value, left, err := eval.Value(nil, said(t, "4"), fuel)
		if !same(value, num(4)) || left != fuel-2 || err != nil {
			t.Errorf("Value of 4, %d: got %v, %d, %v, want 4, %d", fuel, value, left, err, fuel-2)
		}
	}
	for _, fuel := range []int{math.MinInt, -1, 0, 1} {
		wantFault(t, "4", fuel, api.ErrLimit)
	}
}

// EV4: the workspace is checked ahead of the tree, and both ahead of the rest.
func TestFirstWrong(t *testing.T) {
	wrongSpace := []api.Bind{bind("a", api.Array{})}
	wrongTree := []api.Node{{Op: api.IsOmega}}
	longTree := make([]api.Node, api.MaxNodes+1)
	set, unset := said(t, "a←q"), said(t, "q")
	cases := []struct {
		ws          []api.Bind
		nodes       []api.Node
		value, line api.Errno
	}{
		{wrongSpace, wrongTree, api.ErrLength, api.ErrLength},
		{wrongSpace, longTree, api.ErrLength, api.ErrLength},
		{wrongSpace, set, api.ErrLength, api.ErrLength},
		{wrongSpace, unset, api.ErrLength, api.ErrLength},
		{full(21), nil, api.ErrFull, api.ErrFull},
		{[]api.Bind{bind("a", num(1)), bind("a", num(1))}, wrongTree, api.ErrState, api.ErrState},
		{space(), wrongTree, api.ErrSyntax, api.ErrSyntax},
		{space(), longTree, api.ErrFull, api.ErrFull},
		{space(), nil, api.ErrSyntax, api.ErrSyntax},
		{space(), append(said(t, "1"), said(t, "1")...), api.ErrSyntax, api.ErrSyntax},
		{space(), []api.Node{{Op: api.IsOne, Act: api.Act{Op: api.Self}}, {Op: api.IsNums, Nums: []int{1}}}, api.ErrSyntax, api.ErrSyntax},
		{space(), set, api.ErrSyntax, api.ErrName},
		{space(), unset, api.ErrName, api.ErrName},
		{full(20), set, api.ErrSyntax, api.ErrName},
	}
	for i, c := range cases {
		value, left, err := eval.Value(c.ws, c.nodes, 100)
		if !same(value, api.Array{}) || left != 0 || plain.Told(err) != c.value {
			t.Errorf("%d, Value: got %v, %d, %v, want nothing, 0, %v", i, value, left, err, c.value)
		}
		ws, value, err := eval.Line(c.ws, c.nodes, 100)
		if len(ws) > 0 || !same(value, api.Array{}) || plain.Told(err) != c.line {
			t.Errorf("%d, Line: got %v, %v, %v, want nothing, %v", i, ws, value, err, c.line)
		}
		if _, _, err := eval.Value(c.ws, c.nodes, -1); c.value != api.ErrName && plain.Told(err) != c.value {
			t.Errorf("%d, Value without fuel: got %v, want %v", i, err, c.value)
		}
	}
}

// wantLine holds the workspace and the value that Line tells against what they
// should be, with just as much fuel as is needed; with less there are none.
func wantLine(t *testing.T, ws []api.Bind, line string, fuel int, want []api.Bind, value api.Array) {
	t.Helper()
	for more := range 3 {
		behind, told, err := eval.Line(ws, said(t, line), fuel+more)
		if !sameSpace(behind, want) || !same(told, value) || err != nil {
			t.Errorf("%s, %d: got %v, %v, %v, want %v, %v", line, fuel+more, behind, told, err, want, value)
		}
	}
	for less := range fuel + 2 {
		behind, told, err := eval.Line(ws, said(t, line), less-2)
		if len(behind) > 0 || !same(told, api.Array{}) || plain.Told(err) != api.ErrLimit {
			t.Errorf("%s, %d: got %v, %v, %v, want nothing, ErrLimit", line, less-2, behind, told, err)
		}
	}
}

// EV4: a line that gives a name its value does so at the name's place, or at the
// end; any other leaves the workspace as it is.
func TestLine(t *testing.T) {
	two := []api.Bind{bind("a", num(1)), bind("b", list(2, 3))}
	wantLine(t, nil, "4", 2, nil, num(4))
	wantLine(t, nil, "a←4", 2, []api.Bind{bind("a", num(4))}, num(4))
	wantLine(t, two, "a+b", 4, two, list(3, 4))
	wantLine(t, two, "a←a+b", 4, []api.Bind{bind("a", list(3, 4)), two[1]}, list(3, 4))
	wantLine(t, two, "b←'xy'", 2, []api.Bind{two[0], bind("b", chars([]int{2}, 'x', 'y'))}, chars([]int{2}, 'x', 'y'))
	wantLine(t, two, "c←b", 2, []api.Bind{two[0], two[1], bind("c", list(2, 3))}, list(2, 3))
	wantLine(t, two, "A←{⍵=0:a⋄∇⍵-1}1", 18, []api.Bind{two[0], two[1], bind("A", num(1))}, num(1))
	wantLine(t, two, "a←a", 2, two, num(1))
	for _, line := range []string{"c←c", "a←q", "c←1+c"} {
		behind, value, err := eval.Line(two, said(t, line), 100)
		if len(behind) > 0 || !same(value, api.Array{}) || plain.Told(err) != api.ErrName {
			t.Errorf("%s: got %v, %v, %v, want nothing, ErrName", line, behind, value, err)
		}
	}
}

// EV4: a name more than may be is told behind the value's errors.
func TestLineFull(t *testing.T) {
	most := full(20)
	wantLine(t, most, "x0+x19", 4, most, num(19))
	replaced := full(20)
	replaced[7].Value = num(19)
	wantLine(t, most, "x7←x19", 2, replaced, num(19))
	wantLine(t, full(19), "y←x18", 2, append(full(19), bind("y", num(18))), num(18))
	for fuel, want := range []api.Errno{api.ErrLimit, api.ErrLimit, api.ErrLimit, api.ErrLimit, api.ErrFull, api.ErrFull} {
		behind, value, err := eval.Line(most, said(t, "y←x0+1"), fuel)
		if len(behind) > 0 || !same(value, api.Array{}) || plain.Told(err) != want {
			t.Errorf("y←x0+1, %d: got %v, %v, %v, want nothing, %v", fuel, behind, value, err, want)
		}
	}
	for line, want := range map[string]api.Errno{"y←1÷0": api.ErrDomain, "y←y": api.ErrName, "y←{∇1}1": api.ErrLimit} {
		if _, _, err := eval.Line(most, said(t, line), 1000); plain.Told(err) != want {
			t.Errorf("%s: got %v, want %v", line, err, want)
		}
	}
}

// scribble writes over an array, and behind the end of its lists.
func scribble(a *api.Array) {
	a.Char = !a.Char
	for _, l := range [][]int{a.Shape, a.Data} {
		for i := range l {
			l[i] = -77
		}
		_ = append(l, -88, -88)
	}
}

// P2, P4: nothing that is handed in is written into or kept, nor what lies behind
// its length; what comes out is fresh, and no two lists share any.
func TestFresh(t *testing.T) {
	lines := []string{"v", "m", "none", "{⍵}v", "m{⍺}v", "v[0 1 2]", "1 2 3", "v+0", "'ab'", "a←v", "v←m", "v←1 2 3", "n←{⍵}m", "⌽n"}
	for _, line := range lines {
		ws := append(space(), bind("behind", num(9)))
		ws[0].Value.Data = append(ws[0].Value.Data, 44)[:3]
		nodes := append(said(t, line), api.Node{Op: api.IsOmega})
		keptSpace, keptNodes := append(space(), bind("behind", num(9))), append(said(t, line), api.Node{Op: api.IsOmega})
		left := nodes[:len(nodes)-1]
		behind, first, err := eval.Line(ws[:6], left, 50)
		again, second, _ := eval.Line(ws[:6], left, 50)
		if err != nil || !reflect.DeepEqual(ws, keptSpace) || !reflect.DeepEqual(nodes, keptNodes) {
			t.Fatalf("%s wrote: got %v, %v, %v", line, ws, nodes, err)
		}
		wantSpace, want := copyOf(again), arr.Copy(second)
		scribble(&first)
		for i := range behind {
			scribble(&behind[i].Value)
		}
		_ = append(behind, bind("more", num(1)))
		if !reflect.DeepEqual(ws, keptSpace) || !reflect.DeepEqual(nodes, keptNodes) || ws[0].Value.Data[:4][3] != 44 {
			t.Errorf("%s shares with what it is given: got %v, %v", line, ws, nodes)
		}
		for i := range again {
			scribble(&again[i].Value)
		}
		if !same(second, want) {
			t.Errorf("%s shares value and workspace: got %v, want %v", line, second, want)
		}
		again, second, _ = eval.Line(ws[:6], left, 50)
		if !sameSpace(again, wantSpace) || !same(second, want) {
			t.Errorf("%s keeps: got %v, %v, want %v, %v", line, again, second, wantSpace, want)
		}
		scribble(&second)
		if !sameSpace(again, wantSpace) {
			t.Errorf("%s shares workspace and value: got %v, want %v", line, again, wantSpace)
		}
	}
	ws, nodes := space(), said(t, "v")
	value, _, _ := eval.Value(ws, nodes, 9)
	scribble(&value)
	list, _, _ := eval.Value(ws, said(t, "1 2"), 9)
	scribble(&list)
	if !sameSpace(ws, space()) || ws[0].Value.Char {
		t.Errorf("Value shares: got %v", ws)
	}
}

// copyOf is a workspace in memory of its own.
func copyOf(ws []api.Bind) []api.Bind {
	var all []api.Bind
	for _, b := range ws {
		all = append(all, bind(b.Name, arr.Copy(b.Value)))
	}
	return all
}

// plainly tells values by the chapter's words, from nodes alone. It panics with
// what is wrong.
type plainly struct {
	ws        []api.Bind
	fuel      int
	calls     int
	functions []frame // the calls that go on
}

// frame is a call: the nodes of its function, from its own one on, and what it is
// given.
type frame struct {
	nodes       []api.Node
	left, right *api.Array
}

// end is the place behind the expression that begins at a place.
func end(nodes []api.Node, at int) int {
	own, parts := nodes[at], 0
	switch own.Op {
	case api.IsOne, api.IsSet:
		parts = 1
	case api.IsTwo:
		parts = 2
	case api.IsPick:
		parts = 1 + own.N
	}
	if own.Act.Op == api.Dfn {
		parts += 2*own.N + 1
	}
	at++
	for range parts {
		at = end(nodes, at)
	}
	return at
}

// split are the expressions that begin behind a node.
func split(nodes []api.Node) [][]api.Node {
	var all [][]api.Node
	whole := end(nodes, 0)
	for at := 1; at < whole; {
		next := end(nodes, at)
		all = append(all, nodes[at:next])
		at = next
	}
	return all
}

func (p *plainly) step() {
	if p.fuel <= 0 {
		panic(api.ErrLimit)
	}
	p.fuel--
}

func must(a api.Array, err error) api.Array {
	if err != nil {
		panic(plain.Told(err))
	}
	return a
}

// tell is the value of the expression that begins with the first node.
func (p *plainly) tell(nodes []api.Node) api.Array {
	own, parts := nodes[0], split(nodes)
	var inner *frame
	if len(p.functions) > 0 {
		inner = &p.functions[len(p.functions)-1]
	}
	switch own.Op {
	case api.IsNums:
		p.step()
		if len(own.Nums) == 1 {
			return num(own.Nums[0])
		}
		return list(own.Nums...)
	case api.IsText:
		p.step()
		a := must(arr.Text(own.Text))
		if len(a.Data) == 1 {
			a.Shape = nil
		}
		return a
	case api.IsVar:
		p.step()
		for _, b := range p.ws {
			if b.Name == own.Text {
				return b.Value
			}
		}
		panic(api.ErrName)
	case api.IsAlpha:
		p.step()
		if inner.left == nil {
			panic(api.ErrName)
		}
		return *inner.left
	case api.IsOmega:
		p.step()
		return *inner.right
	case api.IsPick:
		by := make([]api.Array, own.N)
		for i := own.N; i >= 1; i-- {
			by[i-1] = p.tell(parts[i])
		}
		a := p.tell(parts[0])
		p.step()
		return must(pick.At(a, by))
	}
	right := p.tell(parts[len(parts)-1])
	var left *api.Array
	if own.Op == api.IsTwo {
		a := p.tell(parts[0])
		left = &a
	}
	p.step()
	switch {
	case own.Act.Op == api.Dfn:
		return p.call(frame{nodes, left, &right})
	case own.Act.Op == api.Self:
		return p.call(frame{inner.nodes, left, &right})
	case left == nil:
		return must(prim.One(own.Act, right))
	}
	return must(prim.Two(own.Act, *left, right))
}

// call is the value of a call.
func (p *plainly) call(f frame) api.Array {
	if len(p.functions) >= 50 {
		panic(api.ErrLimit)
	}
	p.functions = append(p.functions, f)
	parts := split(f.nodes)
	if f.nodes[0].Op == api.IsTwo {
		parts = parts[1:]
	}
	chosen := 2 * f.nodes[0].N
	for i := 0; i < 2*f.nodes[0].N; i += 2 {
		is := p.tell(parts[i])
		p.step()
		yes, no := same(is, num(1)), same(is, num(0))
		if !yes && !no {
			panic(api.ErrDomain)
		}
		if yes {
			chosen = i + 1
			break
		}
	}
	value := p.tell(parts[chosen])
	p.step()
	p.functions = p.functions[:len(p.functions)-1]
	return value
}

// line is the value of a line that is right, with its error and what is left.
func line(ws []api.Bind, nodes []api.Node, fuel int) (value api.Array, left int, wrong api.Errno) {
	p := plainly{ws: ws, fuel: fuel}
	defer func() {
		if e := recover(); e != nil {
			value, left, wrong = api.Array{}, 0, e.(api.Errno)
		}
	}()
	value = p.tell(nodes)
	p.step()
	return value, p.fuel, api.OK
}

// grower grows trees by a row of numbers.
type grower struct {
	at    int
	depth int // of functions that are written out
}

// next is a number from 0 on, below n.
func (g *grower) next(n int) int {
	g.at = (g.at*16807 + 12345) % 2147483647
	return g.at / 7 % n
}

// grow is an expression, at most so deep.
func (g *grower) grow(deep int) []api.Node {
	if deep == 0 || g.next(5) == 0 {
		return g.atom()
	}
	switch g.next(9) {
	case 0, 1:
		return append([]api.Node{{Op: api.IsOne, Act: g.plain()}}, g.grow(deep-1)...)
	case 2, 3:
		return slices.Concat([]api.Node{{Op: api.IsTwo, Act: g.plain()}}, g.grow(deep-1), g.grow(deep-1))
	case 4:
		nodes := []api.Node{{Op: api.IsPick, N: 1 + g.next(2)}}
		for range nodes[0].N + 1 {
			nodes = append(nodes, g.grow(deep-1)...)
		}
		return nodes
	case 5:
		if g.depth > 0 {
			return slices.Concat([]api.Node{{Op: api.IsTwo, Act: api.Act{Op: api.Self}}}, g.grow(deep-1), g.grow(deep-1))
		}
	case 6:
		if g.depth > 0 {
			return append([]api.Node{{Op: api.IsOne, Act: api.Act{Op: api.Self}}}, g.grow(deep-1)...)
		}
	case 7:
		n, body := g.body(deep - 1)
		return slices.Concat([]api.Node{{Op: api.IsTwo, Act: api.Act{Op: api.Dfn}, N: n}}, g.grow(deep-1), body, g.grow(deep-1))
	}
	n, body := g.body(deep - 1)
	return slices.Concat([]api.Node{{Op: api.IsOne, Act: api.Act{Op: api.Dfn}, N: n}}, body, g.grow(deep-1))
}

// plain is a function that is not written out.
func (g *grower) plain() api.Act {
	all := []api.Act{
		{F: api.Add}, {F: api.Sub}, {F: api.Mul}, {F: api.Not}, {F: api.Rho}, {F: api.Comma}, {F: api.Turn},
		{F: api.Iota}, {F: api.Eq}, {F: api.Lt}, {F: api.Same}, {F: api.Max}, {F: api.Res}, {F: api.Take}, {F: api.Cup},
		{Op: api.Over, F: api.Add}, {Op: api.Along, F: api.Max}, {Op: api.Swap, F: api.Sub}, {Op: api.Outer, F: api.Mul},
	}
	return all[g.next(len(all))]
}

// body is what a function is written out with, and how many conditions that has.
func (g *grower) body(deep int) (int, []api.Node) {
	g.depth++
	n := g.next(3)
	var nodes []api.Node
	for range n {
		nodes = slices.Concat(nodes, g.condition(deep), g.grow(deep))
	}
	nodes = append(nodes, g.grow(deep)...)
	g.depth--
	return n, nodes
}

// condition is an expression, one in two such that it is 0 or 1 of most parts.
func (g *grower) condition(deep int) []api.Node {
	if g.next(2) == 0 {
		return g.grow(deep)
	}
	return slices.Concat([]api.Node{{Op: api.IsTwo, Act: api.Act{F: api.Same}}}, g.grow(deep), g.grow(deep))
}

// atom is an expression without parts.
func (g *grower) atom() []api.Node {
	if g.depth > 0 {
		switch g.next(6) {
		case 0, 1, 2:
			return []api.Node{{Op: api.IsOmega}}
		case 3:
			return []api.Node{{Op: api.IsAlpha}}
		}
	}
	switch g.next(12) {
	case 0:
		return []api.Node{{Op: api.IsText, Text: []string{"", "a", "abc"}[g.next(3)]}}
	case 1:
		return []api.Node{{Op: api.IsVar, Text: []string{"v", "n", "m", "s", "one", "none", "q"}[g.next(7)]}}
	case 2:
		return []api.Node{{Op: api.IsNums, Nums: []int{0, 2, 1}[:1+g.next(3)]}}
	}
	return []api.Node{{Op: api.IsNums, Nums: []int{g.next(4)}}}
}

// EV2, EV3, EV4: trees of all kinds, with each amount of fuel, have the value that
// the chapter's words tell.
func TestPlainly(t *testing.T) {
	g := grower{at: 1}
	ws := space()
	told := map[api.Errno]int{}
	for range 8000 {
		nodes := g.grow(1 + g.next(5))
		if len(nodes) > api.MaxNodes || tree.Check(nodes) != nil {
			continue
		}
		for _, fuel := range []int{g.next(4), g.next(12), g.next(60), 1500} {
			want, wantLeft, wrong := line(ws, nodes, fuel)
			value, left, err := eval.Value(ws, nodes, fuel)
			if !same(value, want) || left != wantLeft || plain.Told(err) != wrong {
				t.Fatalf("%v, %d: got %v, %d, %v, want %v, %d, %v", nodes, fuel, value, left, err, want, wantLeft, wrong)
			}
			told[wrong]++
		}
	}
	if told[api.OK] < 4000 || told[api.ErrName] < 800 || told[api.ErrDomain] < 800 || told[api.ErrLimit] < 4000 {
		t.Errorf("too few of a kind: %v", told)
	}
}

// EV4: Line tells the same value, and the workspace with it or as it was.
func TestLinePlainly(t *testing.T) {
	g := grower{at: 2}
	ws := space()
	for range 4000 {
		nodes := g.grow(1 + g.next(4))
		set := []api.Node{{Op: api.IsSet, Text: []string{"v", "none", "new"}[g.next(3)]}}
		set = append(set, nodes...)
		fuel := g.next(80)
		want, _, err := eval.Value(ws, nodes, fuel)
		behind, value, lineErr := eval.Line(ws, nodes, fuel)
		bound, boundTo, setErr := eval.Line(ws, set, fuel)
		if plain.Told(lineErr) != plain.Told(err) || plain.Told(setErr) != plain.Told(err) {
			t.Fatalf("%v, %d: got %v, %v, want %v", nodes, fuel, lineErr, setErr, err)
		}
		if err != nil {
			continue
		}
		if !same(value, want) || !same(boundTo, want) || !sameSpace(behind, ws) || !sameSpace(bound, setPlainly(set[0].Text, want)) {
			t.Fatalf("%v, %d: got %v, %v, %v, %v, want %v", set, fuel, value, behind, boundTo, bound, want)
		}
	}
}

// setPlainly is the workspace of these tests in which a name has a value.
func setPlainly(name string, value api.Array) []api.Bind {
	ws := space()
	for i := range ws {
		if ws[i].Name == name {
			ws[i].Value = value
			return ws
		}
	}
	return append(ws, bind(name, value))
}
