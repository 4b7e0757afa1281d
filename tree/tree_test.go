package tree_test

import (
	"math"
	"reflect"
	"slices"
	"strings"
	"testing"

	"ravelin/api"
	"ravelin/lex"
	"ravelin/plain"
	"ravelin/tree"
)

// Nodes, written short: numbers and texts, names, what acts, indices and sets.
func nums(list ...int) api.Node { return api.Node{Op: api.IsNums, Nums: list} }

func text(s string) api.Node { return api.Node{Op: api.IsText, Text: s} }

func named(s string) api.Node { return api.Node{Op: api.IsVar, Text: s} }

func alpha() api.Node { return api.Node{Op: api.IsAlpha} }

func omega() api.Node { return api.Node{Op: api.IsOmega} }

func one(act api.Act) api.Node { return api.Node{Op: api.IsOne, Act: act} }

func two(act api.Act) api.Node { return api.Node{Op: api.IsTwo, Act: act} }

func pick(n int) api.Node { return api.Node{Op: api.IsPick, N: n} }

func set(s string) api.Node { return api.Node{Op: api.IsSet, Text: s} }

// dfn is a node, IsOne or IsTwo, of a function written out with n conditions.
func dfn(op, n int) api.Node { return api.Node{Op: op, Act: api.Act{Op: api.Dfn}, N: n} }

func fn(f api.Fn) api.Act { return api.Act{F: f} }

func act(op int, f api.Fn) api.Act { return api.Act{Op: op, F: f} }

func inner(f, g api.Fn) api.Act { return api.Act{Op: api.Inner, F: f, G: g} }

func self() api.Act { return api.Act{Op: api.Self} }

// Words, written short.
func number(n int) api.Token { return api.Token{Kind: api.Number, Num: n} }

func chars(s string) api.Token { return api.Token{Kind: api.Chars, Text: s} }

func name(s string) api.Token { return api.Token{Kind: api.Name, Text: s} }

func glyph(f api.Fn) api.Token { return api.Token{Kind: api.Glyph, Fn: f} }

func sign(kind int) api.Token { return api.Token{Kind: kind} }

// read are the words of a line that can be read.
func read(t *testing.T, line string) []api.Token {
	t.Helper()
	words, at, err := lex.Read(line)
	if err != nil {
		t.Fatalf("Read(%q): got %d, %v", line, at, err)
	}
	return words
}

// bare are words without the places at which they begin.
func bare(words []api.Token) []api.Token {
	words = slices.Clone(words)
	for i := range words {
		words[i].At = 0
	}
	return words
}

// brief is a line of words, or they themselves if there is none.
func brief(words []api.Token) any {
	if line, err := lex.Spell(words); err == nil {
		return line
	}
	return words[:min(len(words), 10)]
}

// same tells if two trees are the same, where an empty list and nil are.
func same(a, b []api.Node) bool {
	return slices.EqualFunc(a, b, func(x, y api.Node) bool {
		return slices.Equal(x.Nums, y.Nums) && x.Op == y.Op && x.Act == y.Act && x.N == y.N && x.Text == y.Text
	})
}

// wantTree holds the tree of words against the one that it should be, and what
// Check and Print tell of that against what they should.
func wantTree(t *testing.T, words []api.Token, want ...api.Node) {
	t.Helper()
	nodes, at, err := tree.Parse(words)
	if !same(nodes, want) || at != 0 || err != nil {
		t.Errorf("Parse of %v: got %v, %d, %v, want %v", brief(words), nodes, at, err, want)
	}
	if err := tree.Check(want); err != nil {
		t.Errorf("Check(%v): got %v", want, err)
	}
	told, err := tree.Print(want)
	if again, _, err2 := tree.Parse(told); err != nil || err2 != nil || !same(again, want) {
		t.Errorf("Print(%v): got %v, %v, and of that the tree %v, %v", want, brief(told), err, again, err2)
	}
}

// wantLine is wantTree of the words of a line.
func wantLine(t *testing.T, line string, want ...api.Node) {
	t.Helper()
	wantTree(t, read(t, line), want...)
}

// wantWrong holds what Parse tells of wrong words against what it should.
func wantWrong(t *testing.T, words []api.Token, at int, want api.Errno) {
	t.Helper()
	nodes, got, err := tree.Parse(words)
	if len(nodes) != 0 || got != at || plain.Told(err) != want {
		t.Errorf("Parse of %v: got %v, %d, %v, want nothing, %d, %v", brief(words), nodes, got, err, at, want)
	}
}

// wantNo is wantWrong of the words of a line that is none.
func wantNo(t *testing.T, line string, at int) {
	t.Helper()
	wantWrong(t, read(t, line), at, api.ErrSyntax)
}

// wantNone holds what Check and Print tell of what is no tree against what they
// should.
func wantNone(t *testing.T, want api.Errno, nodes ...api.Node) {
	t.Helper()
	brief := nodes[:min(len(nodes), 10)]
	if err := tree.Check(nodes); plain.Told(err) != want {
		t.Errorf("Check(%v): got %v, want %v", brief, err, want)
	}
	if words, err := tree.Print(nodes); len(words) != 0 || plain.Told(err) != want {
		t.Errorf("Print(%v): got %v, %v, want nothing, %v", brief, words, err, want)
	}
}

// wantPrint holds the words of a tree against those that they should be.
func wantPrint(t *testing.T, want []api.Token, nodes ...api.Node) {
	t.Helper()
	words, err := tree.Print(nodes)
	if err != nil || !slices.Equal(words, bare(want)) {
		t.Errorf("Print(%v): got %v, %v, want %v", nodes, brief(words), err, brief(want))
	}
}

// TR1, TR2: atoms.
func TestAtoms(t *testing.T) {
	wantLine(t, "5", nums(5))
	wantLine(t, "1 ¯2 3 0", nums(1, -2, 3, 0))
	wantLine(t, "9223372036854775807 ¯9223372036854775808", nums(math.MaxInt, math.MinInt))
	wantLine(t, "'a'", text("a"))
	wantLine(t, "''", text(""))
	wantLine(t, "'it''s ⍵'", text("it's ⍵"))
	wantLine(t, "ab_1", named("ab_1"))
	wantLine(t, "twelve_bytes", named("twelve_bytes"))
	wantLine(t, "(1 2)", nums(1, 2))
	wantLine(t, "((a))", named("a"))
	wantLine(t, "((((((('b')))))))", text("b"))
	wantLine(t, "{⍵}1", dfn(api.IsOne, 0), omega(), nums(1))
	wantLine(t, "{⍺}1", dfn(api.IsOne, 0), alpha(), nums(1))
	wantNo(t, "1 (2)", 1)
	wantNo(t, "(1) 2", 3)
	wantNo(t, "'a' 'b'", 1)
	wantNo(t, "a b", 1)
	wantNo(t, "a 1", 1)
	wantNo(t, "1 'a'", 1)
	wantNo(t, "()", 1)
	wantNo(t, "(a", 2)
	wantNo(t, "(1 2", 3)
	wantNo(t, "a)", 1)
	wantNo(t, "(a))", 3)
	wantNo(t, "(a]", 2)
}

// TR1, TR2: expressions are told from their end on.
func TestExpressions(t *testing.T) {
	wantLine(t, "-a", one(fn(api.Sub)), named("a"))
	wantLine(t, "1 2+a", two(fn(api.Add)), nums(1, 2), named("a"))
	wantLine(t, "a-b-c", two(fn(api.Sub)), named("a"), two(fn(api.Sub)), named("b"), named("c"))
	wantLine(t, "(a-b)-c", two(fn(api.Sub)), two(fn(api.Sub)), named("a"), named("b"), named("c"))
	wantLine(t, "a-(b-c)", two(fn(api.Sub)), named("a"), two(fn(api.Sub)), named("b"), named("c"))
	wantLine(t, "-a-b", one(fn(api.Sub)), two(fn(api.Sub)), named("a"), named("b"))
	wantLine(t, "(-a)-b", two(fn(api.Sub)), one(fn(api.Sub)), named("a"), named("b"))
	wantLine(t, "a--b", two(fn(api.Sub)), named("a"), one(fn(api.Sub)), named("b"))
	wantLine(t, "-×-a", one(fn(api.Sub)), one(fn(api.Mul)), one(fn(api.Sub)), named("a"))
	wantLine(t, "'a'⍴⍳3", two(fn(api.Rho)), text("a"), one(fn(api.Iota)), nums(3))
	wantNo(t, "", 0)
	wantNo(t, "+", 1)
	wantNo(t, "a+", 2)
	wantNo(t, "a+)", 2)
	wantNo(t, "a+b c", 3)
	wantNo(t, "a←", 2)
	for _, kind := range []int{api.Right, api.Open, api.Close, api.Semi, api.Arrow, api.Dot, api.Turned, api.End, api.Colon, api.Diamond, api.Alpha, api.Omega, api.Del} {
		wantWrong(t, []api.Token{sign(kind)}, 0, api.ErrSyntax)
		wantWrong(t, []api.Token{sign(api.Left), sign(kind), number(1)}, 1, api.ErrSyntax)
	}
}

// TR1, TR2: a line that gives a name its value; within one nothing does.
func TestSets(t *testing.T) {
	wantLine(t, "a←1 2", set("a"), nums(1, 2))
	wantLine(t, "a←b", set("a"), named("b"))
	wantLine(t, "a←+/b", set("a"), one(act(api.Over, api.Add)), named("b"))
	wantLine(t, "a←(a-1)×a", set("a"), two(fn(api.Mul)), two(fn(api.Sub)), named("a"), nums(1), named("a"))
	wantLine(t, "a←b[1]", set("a"), pick(1), named("b"), nums(1))
	wantNo(t, "a←b←1", 3)
	wantNo(t, "(a)←1", 3)
	wantNo(t, "(a←1)", 2)
	wantNo(t, "1←1", 1)
	wantNo(t, "'a'←1", 1)
	wantNo(t, "a[1]←1", 4)
	wantNo(t, "1+a←1", 3)
	wantNo(t, "{a←⍵}1", 2)
	wantNo(t, "a[b←1]", 3)
	wantNo(t, "←1", 0)
}

// TR1, TR2: indices.
func TestPicks(t *testing.T) {
	wantLine(t, "a[1]", pick(1), named("a"), nums(1))
	wantLine(t, "a[1;(2);b]", pick(3), named("a"), nums(1), nums(2), named("b"))
	wantLine(t, "1 2[0]", pick(1), nums(1, 2), nums(0))
	wantLine(t, "'abc'[2 1]", pick(1), text("abc"), nums(2, 1))
	wantLine(t, "a[0][1;2]", pick(2), pick(1), named("a"), nums(0), nums(1), nums(2))
	wantLine(t, "(a[0])[1]", pick(1), pick(1), named("a"), nums(0), nums(1))
	wantLine(t, "a[b[0]]", pick(1), named("a"), pick(1), named("b"), nums(0))
	wantLine(t, "a[1]+b[2]", two(fn(api.Add)), pick(1), named("a"), nums(1), pick(1), named("b"), nums(2))
	wantLine(t, "-a[1]", one(fn(api.Sub)), pick(1), named("a"), nums(1))
	wantLine(t, "(-a)[1]", pick(1), one(fn(api.Sub)), named("a"), nums(1))
	wantLine(t, "(a+b)[1]", pick(1), two(fn(api.Add)), named("a"), named("b"), nums(1))
	wantLine(t, "a[1+2;-3;+/b]", pick(3), named("a"), two(fn(api.Add)), nums(1), nums(2), one(fn(api.Sub)), nums(3), one(act(api.Over, api.Add)), named("b"))
	wantLine(t, "{⍵[⍺]}1", dfn(api.IsOne, 0), pick(1), omega(), alpha(), nums(1))
	wantLine(t, "{⍵}1[0]", dfn(api.IsOne, 0), omega(), pick(1), nums(1), nums(0))
	wantNo(t, "a[]", 2)
	wantNo(t, "a[;1]", 2)
	wantNo(t, "a[1;]", 4)
	wantNo(t, "a[1", 3)
	wantNo(t, "a[1;", 4)
	wantNo(t, "a[1)", 3)
	wantNo(t, "a[1]]", 4)
	wantNo(t, "a[1:2]", 3)
	wantNo(t, "(a;b)", 2)
	wantNo(t, "a;b", 1)
	wantNo(t, "+[1]a", 1)
	wantNo(t, "a[1] 2", 4)
}

// TR1, TR2: functions of each Glyph, of one part and of two.
func TestGlyphs(t *testing.T) {
	for f := api.Add; f <= api.Slope; f++ {
		functions := map[api.Act][]api.Token{
			fn(f):             {glyph(f)},
			act(api.Over, f):  {glyph(f), glyph(api.Slash)},
			act(api.Along, f): {glyph(f), glyph(api.Slope)},
			act(api.Swap, f):  {glyph(f), sign(api.Turned)},
			act(api.Outer, f): {sign(api.Jot), sign(api.Dot), glyph(f)},
		}
		for g := api.Add; g <= api.Slope; g++ {
			functions[inner(f, g)] = []api.Token{glyph(f), sign(api.Dot), glyph(g)}
		}
		for does, words := range functions {
			ofOne := slices.Concat(words, []api.Token{number(1)})
			wantTree(t, ofOne, one(does), nums(1))
			wantPrint(t, ofOne, one(does), nums(1))
			ofTwo := slices.Concat([]api.Token{name("a")}, ofOne)
			wantTree(t, ofTwo, two(does), named("a"), nums(1))
			wantPrint(t, ofTwo, two(does), named("a"), nums(1))
			wantWrong(t, ofTwo[:len(ofTwo)-1], len(ofTwo)-1, api.ErrSyntax)
		}
	}
}

// TR1: what stands behind a Glyph and can belong to it does.
func TestBelongs(t *testing.T) {
	slash, slope := one(fn(api.Slash)), one(fn(api.Slope))
	wantLine(t, "/a", slash, named("a"))
	wantLine(t, "//a", one(act(api.Over, api.Slash)), named("a"))
	wantLine(t, "///a", one(act(api.Over, api.Slash)), slash, named("a"))
	wantLine(t, "/\\/a", one(act(api.Along, api.Slash)), slash, named("a"))
	wantLine(t, "+//a", one(act(api.Over, api.Add)), slash, named("a"))
	wantLine(t, "+\\\\a", one(act(api.Along, api.Add)), slope, named("a"))
	wantLine(t, "+(/a)", one(fn(api.Add)), slash, named("a"))
	wantLine(t, "+(\\a)", one(fn(api.Add)), slope, named("a"))
	wantLine(t, "+(/a)+b", one(fn(api.Add)), two(fn(api.Add)), slash, named("a"), named("b"))
	wantLine(t, "1+/a", two(act(api.Over, api.Add)), nums(1), named("a"))
	wantLine(t, "1/a", two(fn(api.Slash)), nums(1), named("a"))
	wantLine(t, "1//a", two(act(api.Over, api.Slash)), nums(1), named("a"))
	wantLine(t, "1/(/a)", two(fn(api.Slash)), nums(1), slash, named("a"))
	wantLine(t, "+⍨/a", one(act(api.Swap, api.Add)), slash, named("a"))
	wantLine(t, "∘.+/a", one(act(api.Outer, api.Add)), slash, named("a"))
	wantLine(t, "∘.+\\a", one(act(api.Outer, api.Add)), slope, named("a"))
	wantLine(t, "∘.//a", one(act(api.Outer, api.Slash)), slash, named("a"))
	wantLine(t, "+.×/a", one(inner(api.Add, api.Mul)), slash, named("a"))
	wantLine(t, "+.//a", one(inner(api.Add, api.Slash)), slash, named("a"))
	wantLine(t, "/.\\a", one(inner(api.Slash, api.Slope)), named("a"))
	wantLine(t, "{∇/⍵}1", dfn(api.IsOne, 0), one(self()), slash, omega(), nums(1))
	wantLine(t, "{⍵}/a", dfn(api.IsOne, 0), omega(), slash, named("a"))
	wantNo(t, "+/⍨a", 2)
	wantNo(t, "+/.×a", 2)
	wantNo(t, "+⍨⍨a", 2)
	wantNo(t, "+.×⍨a", 3)
	wantNo(t, "+.×.+a", 3)
	wantNo(t, "∘.×⍨a", 3)
	wantNo(t, "∘.×.+a", 3)
	wantNo(t, "+.a", 2)
	wantNo(t, "+.", 2)
	wantNo(t, "+.∘.+a", 2)
	wantNo(t, "∘+a", 1)
	wantNo(t, "∘", 1)
	wantNo(t, "∘.", 2)
	wantNo(t, "∘.{⍵}a", 2)
	wantNo(t, ".+a", 0)
	wantNo(t, "⍨+a", 0)
	wantNo(t, "{⍵}⍨a", 3)
	wantNo(t, "{∇⍨⍵}a", 2)
}

// TR1, TR2: functions that are written out.
func TestWrittenOut(t *testing.T) {
	wantLine(t, "1{⍺+⍵}2", dfn(api.IsTwo, 0), nums(1), two(fn(api.Add)), alpha(), omega(), nums(2))
	wantLine(t, "{⍵=0:1⋄∇⍵-1}5", dfn(api.IsOne, 1), two(fn(api.Eq)), omega(), nums(0), nums(1), one(self()),
		two(fn(api.Sub)), omega(), nums(1), nums(5))
	wantLine(t, "{1:2⋄3:4⋄5}6", dfn(api.IsOne, 2), nums(1), nums(2), nums(3), nums(4), nums(5), nums(6))
	wantLine(t, "0{1:2⋄3:4⋄5:6⋄7}8", dfn(api.IsTwo, 3), nums(0), nums(1), nums(2), nums(3), nums(4), nums(5),
		nums(6), nums(7), nums(8))
	wantLine(t, "{⍺{⍺-⍵}⍵}3", dfn(api.IsOne, 0), dfn(api.IsTwo, 0), alpha(), two(fn(api.Sub)), alpha(), omega(), omega(), nums(3))
	wantLine(t, "{⍺∇⍵}3", dfn(api.IsOne, 0), two(self()), alpha(), omega(), nums(3))
	wantLine(t, "{{1:2⋄∇⍵}⍵:⍵⋄∇1}3", dfn(api.IsOne, 1), dfn(api.IsOne, 1), nums(1), nums(2), one(self()), omega(), omega(), omega(), one(self()), nums(1), nums(3))
	wantLine(t, "{(⍵)[⍵]}(a)", dfn(api.IsOne, 0), pick(1), omega(), omega(), named("a"))
	wantLine(t, "{1}{2}3", dfn(api.IsOne, 0), nums(1), dfn(api.IsOne, 0), nums(2), nums(3))
	wantNo(t, "{⍵}", 3)
	wantNo(t, "{}1", 1)
	wantNo(t, "{a:b}1", 4)
	wantNo(t, "{a:b⋄}1", 5)
	wantNo(t, "{a⋄b}1", 2)
	wantNo(t, "{a:b:c⋄d}1", 4)
	wantNo(t, "{a:b⋄c⋄d}1", 6)
	wantNo(t, "{:b⋄c}1", 1)
	wantNo(t, "{a", 2)
	wantNo(t, "{a:", 3)
	wantNo(t, "{a:b", 4)
	wantNo(t, "{a:b⋄", 5)
	wantNo(t, "{a:b⋄c", 6)
	wantNo(t, "{(a:b)⋄c}1", 3)
	wantNo(t, "{a)1", 2)
	wantNo(t, "a:b⋄c", 1)
	wantNo(t, "a}", 1)
	wantNo(t, "(a}", 2)
}

// TR1: Alpha, Omega and Del stand between Begin and End alone.
func TestInsideAlone(t *testing.T) {
	wantNo(t, "⍵", 0)
	wantNo(t, "⍺", 0)
	wantNo(t, "∇1", 0)
	wantNo(t, "1+⍵", 2)
	wantNo(t, "(⍺)", 1)
	wantNo(t, "a[⍵]", 2)
	wantNo(t, "a←⍵", 2)
	wantNo(t, "1∇2", 1)
	wantNo(t, "{⍵}⍵", 3)
	wantNo(t, "⍺{⍺}1", 0)
	wantNo(t, "{⍵}∇1", 3)
	wantNo(t, "{{⍵}⍵}⍵", 6)
	wantLine(t, "{{⍵}⍵}1", dfn(api.IsOne, 0), dfn(api.IsOne, 0), omega(), omega(), nums(1))
	wantLine(t, "{1[{1}⍵]}1", dfn(api.IsOne, 0), pick(1), nums(1), dfn(api.IsOne, 0), nums(1), omega(), nums(1))
	for _, node := range []api.Node{alpha(), omega()} {
		wantNone(t, api.ErrSyntax, node)
		wantNone(t, api.ErrSyntax, set("a"), node)
		wantNone(t, api.ErrSyntax, one(fn(api.Add)), node)
		wantNone(t, api.ErrSyntax, two(fn(api.Add)), node, nums(1))
		wantNone(t, api.ErrSyntax, two(fn(api.Add)), nums(1), node)
		wantNone(t, api.ErrSyntax, pick(1), node, nums(1))
		wantNone(t, api.ErrSyntax, pick(1), nums(1), node)
		wantNone(t, api.ErrSyntax, dfn(api.IsOne, 0), nums(1), node)
		wantNone(t, api.ErrSyntax, dfn(api.IsTwo, 0), node, nums(1), nums(1))
		wantNone(t, api.ErrSyntax, dfn(api.IsTwo, 0), nums(1), nums(1), node)
	}
	wantNone(t, api.ErrSyntax, one(self()), nums(1))
	wantNone(t, api.ErrSyntax, two(self()), nums(1), nums(1))
	wantNone(t, api.ErrSyntax, dfn(api.IsOne, 0), nums(1), one(self()), nums(1))
}

// wrongAt tells where words are wrong, and if they are, by going over them once
// with a list of what is open.
func wrongAt(words []api.Token) (int, bool) {
	const (
		begins  = iota // an expression must begin
		behind         // a term is over, and may go on
		numeral        // so, and its last word is a Number
		lone           // a Glyph that may get more
		jot
		dot // a Glyph must come
	)
	var open []int // Left, Open; Begin, or Colon where a condition's value is
	state := begins
	within := func() bool { return slices.Contains(open, api.Begin) || slices.Contains(open, api.Colon) }
	top := func(kind int) bool { return len(open) > 0 && open[len(open)-1] == kind }
	function := func(word api.Token) bool {
		switch {
		case word.Kind == api.Glyph:
			state = lone
		case word.Kind == api.Jot:
			state = jot
		case word.Kind == api.Begin:
			open, state = append(open, api.Begin), begins
		case word.Kind == api.Del && within():
			state = begins
		default:
			return false
		}
		return true
	}
	atom := func(word api.Token) bool {
		switch {
		case word.Kind == api.Number:
			state = numeral
		case word.Kind == api.Chars, word.Kind == api.Name, within() && (word.Kind == api.Alpha || word.Kind == api.Omega):
			state = behind
		case word.Kind == api.Left:
			open, state = append(open, api.Left), begins
		default:
			return false
		}
		return true
	}
	onward := func(word api.Token, at int) bool {
		last := len(open) - 1
		switch {
		case word.Kind == api.Arrow && at == 1 && words[0].Kind == api.Name:
			state = begins
		case word.Kind == api.Open:
			open, state = append(open, api.Open), begins
		case word.Kind == api.Semi && top(api.Open):
			state = begins
		case word.Kind == api.Close && top(api.Open), word.Kind == api.Right && top(api.Left):
			open, state = open[:last], behind
		case word.Kind == api.Colon && top(api.Begin):
			open[last], state = api.Colon, begins
		case word.Kind == api.Diamond && top(api.Colon):
			open[last], state = api.Begin, begins
		case word.Kind == api.End && top(api.Begin):
			open, state = open[:last], begins
		default:
			return function(word)
		}
		return true
	}
	for at, word := range words {
		right := false
		switch state {
		case lone:
			switch {
			case word == glyph(api.Slash), word == glyph(api.Slope), word.Kind == api.Turned:
				state, right = begins, true
			case word.Kind == api.Dot:
				state, right = dot, true
			default:
				right = function(word) || atom(word)
			}
		case begins:
			right = function(word) || atom(word)
		case behind:
			right = onward(word, at)
		case numeral:
			right = word.Kind == api.Number || onward(word, at)
		case jot:
			state, right = dot, word.Kind == api.Dot
		case dot:
			state, right = begins, word.Kind == api.Glyph
		}
		if !right {
			return at, true
		}
	}
	return len(words), len(open) > 0 || state != behind && state != numeral
}

// wantAsGoneOver holds what Parse tells of words against what going over them does.
// Of words that are a line, Print's tell the same tree.
func wantAsGoneOver(t *testing.T, words []api.Token) {
	t.Helper()
	if at, wrong := wrongAt(words); wrong {
		wantWrong(t, words, at, api.ErrSyntax)
		return
	}
	nodes, at, err := tree.Parse(words)
	if err != nil || at != 0 || len(nodes) == 0 || len(nodes) > len(words) {
		t.Errorf("Parse of %v: got %v, %d, %v", brief(words), nodes, at, err)
		return
	}
	told, err := tree.Print(nodes)
	again, _, err2 := tree.Parse(told)
	if err != nil || err2 != nil || !same(again, nodes) || len(told) > len(words) {
		t.Errorf("Print(%v): got %v, %v, and of that %v, %v", nodes, brief(told), err, again, err2)
	}
}

// kinds are words, one of each kind, and all Glyphs that differ here.
func kinds() []api.Token {
	all := []api.Token{number(7), chars("b"), name("a"), glyph(api.Add), glyph(api.Slash), glyph(api.Slope)}
	for kind := api.Left; kind <= api.Del; kind++ {
		all = append(all, sign(kind))
	}
	return all
}

// TR1, TR3: all of up to four words, and long ones that begin as lines do.
func TestAllWords(t *testing.T) {
	all := kinds()
	var words []api.Token
	var more func(int)
	more = func(left int) {
		wantAsGoneOver(t, words)
		if left == 0 {
			return
		}
		for _, word := range all {
			words = append(words, word)
			more(left - 1)
			words = words[:len(words)-1]
		}
	}
	more(4)
	step := 1
	for range 20000 {
		words = nil
		for range 1 + step%60 {
			for range 20 {
				step = (step*16807 + 12345) % 2147483647
				words = append(words, all[step/7%len(all)])
				if at, wrong := wrongAt(words); !wrong || at == len(words) {
					break
				}
				words = words[:len(words)-1]
			}
		}
		wantAsGoneOver(t, words)
		wantAsGoneOver(t, append(words, all[step/7%len(all)]))
	}
}

// TR3: more than MaxWords words, whatever else is wrong.
func TestParseManyWords(t *testing.T) {
	many := slices.Repeat([]api.Token{number(3)}, api.MaxWords)
	wantTree(t, many, nums(slices.Repeat([]int{3}, api.MaxWords)...))
	wantWrong(t, append(many, number(3)), 0, api.ErrFull)
	wantWrong(t, append(many, sign(0)), 0, api.ErrFull)
	wantWrong(t, slices.Repeat([]api.Token{sign(0)}, api.MaxWords+1), 0, api.ErrFull)
	wantWrong(t, slices.Repeat([]api.Token{sign(0)}, api.MaxWords), 0, api.ErrSyntax)
	for _, word := range []api.Token{sign(api.Left), glyph(api.Add), sign(api.Begin)} {
		wantWrong(t, slices.Repeat([]api.Token{word}, api.MaxWords), api.MaxWords, api.ErrSyntax)
		wantWrong(t, slices.Repeat([]api.Token{word}, api.MaxWords+1), 0, api.ErrFull)
	}
	deep := slices.Concat(slices.Repeat([]api.Token{sign(api.Left)}, 99), []api.Token{name("a")}, slices.Repeat([]api.Token{sign(api.Right)}, 99))
	wantTree(t, deep, named("a"))
	wantWrong(t, deep[:len(deep)-1], len(deep)-1, api.ErrSyntax)
	wantWrong(t, append(deep, sign(api.Right)), len(deep), api.ErrSyntax)
}

// TR3: word by word what Spell tells of it alone, ahead of what is no line.
func TestParseWrongWords(t *testing.T) {
	long := strings.Repeat("x", api.MaxLine)
	for _, wrong := range []struct {
		word api.Token
		err  api.Errno
	}{
		{sign(0), api.ErrSyntax}, {sign(-1), api.ErrSyntax}, {sign(api.Del + 1), api.ErrSyntax},
		{glyph(0), api.ErrSyntax}, {glyph(api.Slope + 1), api.ErrSyntax}, {glyph(math.MinInt), api.ErrSyntax},
		{name(""), api.ErrSyntax}, {name("1a"), api.ErrSyntax}, {name("averylongname"), api.ErrFull},
		{name(long), api.ErrFull}, {chars("\xff"), api.ErrSyntax}, {chars("a\n"), api.ErrSyntax},
		{chars(long[:api.MaxLine-1]), api.ErrFull}, {chars(strings.Repeat("'", api.MaxLine/2)), api.ErrFull},
		{api.Token{Kind: api.Number, Num: 1, Fn: 1}, api.ErrSyntax}, {api.Token{Kind: api.Left, Num: 1}, api.ErrSyntax},
		{api.Token{Kind: api.Name, Text: "a", Num: 1}, api.ErrSyntax}, {api.Token{Kind: api.Glyph, Fn: 1, Text: "+"}, api.ErrSyntax},
	} {
		wantWrong(t, []api.Token{wrong.word}, 0, wrong.err)
		wantWrong(t, []api.Token{number(1), glyph(api.Add), wrong.word}, 2, wrong.err)
		// It is told even behind words with which no line begins.
		wantWrong(t, []api.Token{sign(api.Right), name("a"), name("b"), wrong.word}, 3, wrong.err)
		wantWrong(t, []api.Token{wrong.word, sign(0), name("averylongname")}, 0, wrong.err)
		wantWrong(t, []api.Token{name("a"), wrong.word, sign(0), name("averylongname")}, 1, wrong.err)
	}
	// Each word fits a line, though all of them would not.
	fits := chars(long[:api.MaxLine-2])
	wantTree(t, []api.Token{fits}, text(fits.Text))
	wantTree(t, []api.Token{fits, glyph(api.Add), fits}, two(fn(api.Add)), text(fits.Text), text(fits.Text))
}

// TR3: At is nothing that Parse looks at.
func TestParseAside(t *testing.T) {
	words := read(t, "a←{⍵[1;2]+'b'}1 2")
	want, _, err := tree.Parse(words)
	if err != nil {
		t.Fatal(err)
	}
	for _, at := range []int{math.MinInt, -1, 0, 1, math.MaxInt} {
		for i := range words {
			words[i].At = at
		}
		wantTree(t, words, want...)
	}
}

// TR4: all lists of up to five nodes, against all trees that there are of them.
func TestCheckAllNodes(t *testing.T) {
	pool := []api.Node{
		nums(1), named("a"), omega(), one(fn(api.Slash)), one(self()), dfn(api.IsOne, 0), dfn(api.IsOne, 1),
		two(fn(api.Add)), dfn(api.IsTwo, 0), pick(1), pick(2), set("b"),
	}
	const last = 'l' // the sets
	var lists func(n int, within ...bool) []string
	expressions := func(n int, within bool) []string {
		var all []string
		ahead := func(node string, parts ...bool) {
			for _, list := range lists(n-1, parts...) {
				all = append(all, node+list)
			}
		}
		if n == 1 {
			all = append(all, "a", "b")
		}
		if n == 1 && within {
			all = append(all, "c")
		}
		ahead("d", within)
		if within {
			ahead("e", within)
		}
		ahead("f", true, within)
		ahead("g", true, true, true, within)
		ahead("h", within, within)
		ahead("i", within, true, within)
		ahead("j", within, within)
		ahead("k", within, within, within)
		return all
	}
	// lists are the lists of n nodes that are trees of so many expressions.
	lists = func(n int, within ...bool) []string {
		if len(within) == 0 {
			if n == 0 {
				return []string{""}
			}
			return nil
		}
		var all []string
		for k := 1; k <= n-len(within)+1; k++ {
			for _, first := range expressions(k, within[0]) {
				for _, rest := range lists(n-k, within[1:]...) {
					all = append(all, first+rest)
				}
			}
		}
		return all
	}
	are := map[string]bool{}
	for n := 1; n <= 5; n++ {
		for _, list := range expressions(n, false) {
			are[list] = true
			if n < 5 {
				are[string(last)+list] = true
			}
		}
	}
	var nodes []api.Node
	var letters []byte
	found := 0
	var more func()
	more = func() {
		err := tree.Check(nodes)
		if are[string(letters)] {
			found++
			if err != nil {
				t.Errorf("Check(%v): got %v", nodes, err)
			}
		} else if plain.Told(err) != api.ErrSyntax {
			t.Errorf("Check(%v): got %v, want ErrSyntax", nodes, err)
		}
		if len(nodes) == 5 {
			return
		}
		for i, node := range pool {
			nodes, letters = append(nodes, node), append(letters, 'a'+byte(i))
			more()
			nodes, letters = nodes[:len(nodes)-1], letters[:len(letters)-1]
		}
	}
	more()
	if found != len(are) || found < 500 {
		t.Errorf("of %d trees there were %d among the lists", len(are), found)
	}
}

// TR4: more than MaxNodes nodes, whatever else is wrong; words however many.
func TestCheckManyNodes(t *testing.T) {
	ones := slices.Repeat([]api.Node{one(fn(api.Sub))}, api.MaxNodes)
	if err := tree.Check(append(slices.Clone(ones[1:]), nums(1))); err != nil {
		t.Errorf("Check of %d nodes: got %v", api.MaxNodes, err)
	}
	wantNone(t, api.ErrFull, append(slices.Clone(ones), nums(1))...)
	wantNone(t, api.ErrSyntax, ones...)
	wantNone(t, api.ErrFull, append(slices.Clone(ones), api.Node{})...)
	wantNone(t, api.ErrSyntax, slices.Repeat([]api.Node{{}}, api.MaxNodes)...)
	wantNone(t, api.ErrFull, slices.Repeat([]api.Node{{}}, api.MaxNodes+1)...)
	list := nums(make([]int, 1<<20)...)
	if err := tree.Check([]api.Node{two(fn(api.Sub)), list, list}); err != nil {
		t.Errorf("Check of many numbers: got %v", err)
	}
	for _, many := range []api.Node{two(fn(api.Sub)), dfn(api.IsTwo, 0), dfn(api.IsOne, 1), pick(1), pick(100)} {
		wantNone(t, api.ErrSyntax, slices.Repeat([]api.Node{many}, api.MaxNodes)...)
	}
}

// TR4: lists that are no tree, or more than one.
func TestCheckNoTree(t *testing.T) {
	wantNone(t, api.ErrSyntax)
	wantNone(t, api.ErrSyntax, nums(1), nums(1))
	wantNone(t, api.ErrSyntax, one(fn(api.Add)))
	wantNone(t, api.ErrSyntax, one(fn(api.Add)), nums(1), nums(1))
	wantNone(t, api.ErrSyntax, two(fn(api.Add)), nums(1))
	wantNone(t, api.ErrSyntax, two(fn(api.Add)), nums(1), nums(1), nums(1))
	wantNone(t, api.ErrSyntax, set("a"))
	wantNone(t, api.ErrSyntax, set("a"), set("a"), nums(1))
	wantNone(t, api.ErrSyntax, one(fn(api.Add)), set("a"), nums(1))
	wantNone(t, api.ErrSyntax, set("a"), nums(1), nums(1))
	wantNone(t, api.ErrSyntax, nums(1), set("a"))
	wantNone(t, api.ErrSyntax, dfn(api.IsOne, 0), set("a"), nums(1), nums(1))
	for _, op := range []int{math.MinInt, -api.IsNums, -1, 0, api.IsSet + 1, math.MaxInt} {
		wantNone(t, api.ErrSyntax, api.Node{Op: op})
		wantNone(t, api.ErrSyntax, one(fn(api.Add)), api.Node{Op: op})
		wantNone(t, api.ErrSyntax, nums(1), api.Node{Op: op})
	}
}

// TR4: as many indices and conditions as N tells, of indices at least one.
func TestCheckHowMany(t *testing.T) {
	for n := range 5 {
		list := slices.Repeat([]api.Node{nums(1)}, n+1)
		for _, told := range []int{math.MinInt, -n, -1, 0, 1, 2, 3, 4, 5, 1 << 31, 1 << 62, 1<<62 + n, 1<<62 + n/2, 1<<63 - 1, -1 << 62} {
			nodes := slices.Concat([]api.Node{pick(told)}, list)
			if told > 0 && told == n {
				wantTree(t, words(t, nodes), nodes...)
			} else {
				wantNone(t, api.ErrSyntax, nodes...)
			}
			for op, parts := range map[int]int{api.IsOne: n + 1, api.IsTwo: n} {
				nodes := slices.Concat([]api.Node{dfn(op, told)}, list)
				if told >= 0 && told <= n && 2*told+2 == parts {
					wantTree(t, words(t, nodes), nodes...)
				} else {
					wantNone(t, api.ErrSyntax, nodes...)
				}
			}
		}
	}
}

// words are the words that Print tells of a tree.
func words(t *testing.T, nodes []api.Node) []api.Token {
	t.Helper()
	told, err := tree.Print(nodes)
	if err != nil {
		t.Errorf("Print(%v): got %v", nodes, err)
	}
	return told
}

// TR4: Nums that are empty, and texts that Parse could not have.
func TestCheckTexts(t *testing.T) {
	wantNone(t, api.ErrSyntax, nums())
	wantNone(t, api.ErrSyntax, api.Node{Op: api.IsNums, Nums: []int{}})
	wantNone(t, api.ErrSyntax, two(fn(api.Add)), nums(1), nums())
	long := strings.Repeat("x", api.MaxLine)
	for _, s := range []string{"", "1", "_a", "a b", "a'", "aé", "averylongname", long, "\xff"} {
		wantNone(t, api.ErrSyntax, named(s))
		wantNone(t, api.ErrSyntax, set(s), nums(1))
		wantNone(t, api.ErrSyntax, one(fn(api.Add)), named(s))
	}
	for _, s := range []string{"\xff", "a\n", "\x00", "\xed\xa0\x80", long, long[1:], strings.Repeat("'", api.MaxLine/2)} {
		wantNone(t, api.ErrSyntax, text(s))
		wantNone(t, api.ErrSyntax, two(fn(api.Add)), text(s), nums(1))
	}
	for _, s := range []string{"", " ", "'", "⍵", "\x7f", long[2:], strings.Repeat("'", api.MaxLine/2-1)} {
		wantTree(t, []api.Token{chars(s)}, text(s))
	}
	for _, s := range []string{"a", "Z9_", "twelve_bytes"} {
		wantTree(t, []api.Token{name(s)}, named(s))
		wantTree(t, []api.Token{name(s), sign(api.Arrow), name(s)}, set(s), named(s))
	}
}

// TR4: F or G is none of Read's functions, and acts that there are not.
func TestCheckActs(t *testing.T) {
	for _, f := range []api.Fn{math.MinInt, -api.Add, -1, 0, api.Slope + 1, 100, math.MaxInt} {
		acts := []api.Act{inner(f, api.Add), inner(api.Add, f), inner(f, f)}
		for _, op := range []int{api.Plain, api.Over, api.Along, api.Outer, api.Swap} {
			acts = append(acts, act(op, f))
		}
		for _, a := range acts {
			wantNone(t, api.ErrSyntax, one(a), nums(1))
			wantNone(t, api.ErrSyntax, two(a), nums(1), nums(1))
		}
	}
	for _, op := range []int{math.MinInt, -1, api.Self + 1, 100, math.MaxInt} {
		for _, a := range []api.Act{{Op: op}, act(op, api.Add), {Op: op, F: api.Add, G: api.Add}} {
			wantNone(t, api.ErrSyntax, one(a), nums(1))
			wantNone(t, api.ErrSyntax, two(a), nums(1), nums(1))
			wantNone(t, api.ErrSyntax, dfn(api.IsOne, 0), one(a), nums(1), nums(1))
		}
	}
}

// TR4: a field that says nothing of such a node is 0 or empty.
func TestCheckFields(t *testing.T) {
	numbersMatter := func(node api.Node) bool { return node.Op == api.IsNums }
	textMatters := func(node api.Node) bool {
		return node.Op == api.IsText || node.Op == api.IsVar || node.Op == api.IsSet
	}
	acting := func(node api.Node) bool { return node.Op == api.IsOne || node.Op == api.IsTwo }
	written := func(node api.Node) bool { return node.Act.Op == api.Dfn || node.Act.Op == api.Self }
	for _, line := range []string{
		"1", "'a'", "b", "a←1", "-1", "1-2", "+/1", "1+/2", "+\\1", "1+\\2", "+⍨1", "1+⍨2", "∘.+1", "1∘.+2", "+.×1", "1+.×2",
		"a[1]", "a[1;2]", "{⍵}1", "1{⍺}2", "{⍵:⍺⋄∇1}1", "1{⍵:⍺⋄1∇1}1", "a←'b',{{∇⍵}⍵+/-a[⍳4;⍺]}c+.-d",
	} {
		nodes, _, err := tree.Parse(read(t, line))
		if err != nil || tree.Check(nodes) != nil {
			t.Errorf("%s: got %v, %v", line, nodes, err)
		}
		for i, right := range nodes {
			wrong := func(change func(*api.Node)) {
				t.Helper()
				list := slices.Clone(nodes)
				change(&list[i])
				wantNone(t, api.ErrSyntax, list...)
			}
			for _, n := range []int{math.MinInt, -1, 1, 2, math.MaxInt} {
				if !numbersMatter(right) {
					wrong(func(node *api.Node) { node.Nums = []int{n} })
				}
				if right.Op != api.IsPick && right.Act.Op != api.Dfn {
					wrong(func(node *api.Node) { node.N = n })
				}
				if !acting(right) || right.Act.Op != api.Inner {
					wrong(func(node *api.Node) { node.Act.G = api.Fn(n) })
				}
				if !acting(right) || written(right) {
					wrong(func(node *api.Node) { node.Act.F = api.Fn(n) })
				}
				if !acting(right) {
					wrong(func(node *api.Node) { node.Act.Op = n })
				}
			}
			if !textMatters(right) {
				wrong(func(node *api.Node) { node.Text = "a" })
			}
			if !numbersMatter(right) {
				list := slices.Clone(nodes)
				list[i].Nums = []int{}
				if err := tree.Check(list); err != nil {
					t.Errorf("%s: with an empty list: got %v", line, err)
				}
			}
		}
	}
}

// TR5: words of a tree, and where Left and Right stand.
func TestPrint(t *testing.T) {
	for _, line := range []string{
		"1 ¯2 3", "''", "'it''s'", "a", "a←1", "-a", "a-b-c", "(a-b)-c", "(-a)-b", "a--b", "-a-b", "a[1]", "a[1;b+c;-d]",
		"a[0][1]", "(a+b)[1]", "(-a)[1]", "a[1]+b[2]", "1 2[0]", "+(/a)", "+(\\a)", "a+(/b)", "+(//a)", "+(\\/a)", "+(/⍨a)",
		"+(/.+a)", "+(\\.+a)", "/(/a)", "/(\\a)", "+//a", "+\\/a", "+⍨/a", "∘.+/a", "+.×\\a", "∘./a", "+∘./a", "+(/a)-b",
		"+/a", "/a", "a/b", "{⍵}/a", "1{⍵}/a", "+{/⍵}a", "{∇/⍵}1", "{1∇\\⍵}1", "{⍵=0:1⋄∇⍵-1}5", "{1:2⋄3:4⋄5}6",
		"(1{⍵}2){⍺}3", "({⍵}2)[0]", "{(⍺∇⍵)∇⍵}3", "a[/b]", "a←/b", "{/⍵:/1⋄/2}3", "-+.-∘.-1", "(a[0]-b)[1]-c",
	} {
		words := read(t, line)
		nodes, at, err := tree.Parse(words)
		if err != nil {
			t.Errorf("%s: got %d, %v", line, at, err)
			continue
		}
		wantPrint(t, words, nodes...)
		wantAllNeeded(t, words, nodes)
	}
	for loose, tight := range map[string]string{
		"((a))": "a", "a[1;(2)]": "a[1;2]", "(a[0])[1]": "a[0][1]", "a-(b-c)": "a-b-c", "(-a)": "-a", "-(a-b)": "-a-b",
		"(a)+(b)": "a+b", "(a[1])+1": "a[1]+1", "+/(/a)": "+//a", "(+/a)": "+/a", "∘.+(/a)": "∘.+/a", "a←(1 2)": "a←1 2",
		"{(⍵)}((1))": "{⍵}1", "{(⍵):(1)⋄(∇(/⍵))}5": "{⍵:1⋄∇/⍵}5", "(1 2)[(0)]": "1 2[0]", "+(a/b)": "+a/b", "+((/a)+b)": "+(/a)+b",
		"+.×(/a)": "+.×/a", "+⍨(\\a)": "+⍨\\a", "({⍵}1)": "{⍵}1", "(1){⍵}(2)": "1{⍵}2", "(((a)+b))×c": "(a+b)×c",
	} {
		nodes, _, err := tree.Parse(read(t, loose))
		if err != nil {
			t.Errorf("%s: got %v", loose, err)
		}
		wantPrint(t, read(t, tight), nodes...)
		wantAllNeeded(t, read(t, tight), nodes)
	}
}

// wantAllNeeded holds words against the tree that they say: without a Left and its
// Right it is another one, or none.
func wantAllNeeded(t *testing.T, words []api.Token, nodes []api.Node) {
	t.Helper()
	var open []int
	for i, word := range words {
		switch word.Kind {
		case api.Left:
			open = append(open, i)
		case api.Right:
			left := open[len(open)-1]
			open = open[:len(open)-1]
			fewer := slices.Concat(words[:left], words[left+1:i], words[i+1:])
			if again, _, err := tree.Parse(fewer); err == nil && same(again, nodes) {
				t.Errorf("%v: got more Left and Right than %v needs", brief(words), brief(fewer))
			}
		}
	}
}

// TR5: more than MaxWords words, behind what Check tells.
func TestPrintManyWords(t *testing.T) {
	most := nums(slices.Repeat([]int{3}, api.MaxWords)...)
	wantPrint(t, slices.Repeat([]api.Token{number(3)}, api.MaxWords), most)
	full := func(nodes ...api.Node) {
		t.Helper()
		if err := tree.Check(nodes); err != nil {
			t.Errorf("Check(%v): got %v", nodes[:1], err)
		}
		if told, err := tree.Print(nodes); len(told) != 0 || plain.Told(err) != api.ErrFull {
			t.Errorf("Print(%v): got %v, %v, want nothing, ErrFull", nodes[:1], brief(told), err)
		}
	}
	full(nums(slices.Repeat([]int{3}, api.MaxWords+1)...))
	full(one(fn(api.Sub)), most)
	full(nums(make([]int, 1<<22)...))
	full(two(fn(api.Sub)), nums(make([]int, 1<<22)...), nums(make([]int, 1<<22)...))
	ones := slices.Repeat([]api.Node{one(fn(api.Sub))}, api.MaxWords)
	wantPrint(t, append(slices.Repeat([]api.Token{glyph(api.Sub)}, api.MaxWords-1), name("a")), append(slices.Clone(ones[1:]), named("a"))...)
	full(append(slices.Clone(ones), named("a"))...)
	// With the last of these the bracket is one word too many.
	for n, want := range map[int]bool{196: true, 197: false} {
		nodes := []api.Node{pick(1), one(fn(api.Sub)), nums(slices.Repeat([]int{1}, n-2)...), nums(1)}
		told, err := tree.Print(nodes)
		if want && (err != nil || len(told) != n+4) {
			t.Errorf("Print of %d words: got %d, %v", n+4, len(told), err)
		}
		if !want {
			full(nodes...)
		}
	}
	wantNone(t, api.ErrSyntax, append(slices.Clone(ones), named("1"))...)
	wantNone(t, api.ErrSyntax, api.Node{Op: api.IsNums, N: 1, Nums: make([]int, api.MaxWords+1)})
	wantNone(t, api.ErrFull, slices.Repeat([]api.Node{named("1")}, api.MaxNodes+1)...)
}

// said is an expression as nodes and as words.
type said struct {
	nodes   []api.Node
	words   []api.Token
	acts    bool // it is IsOne or IsTwo, without Left and Right about it
	slashed bool // its first word is the Glyph / or \
}

// maker makes expressions, by a number that runs round. A loose one puts Left and
// Right where they need not be.
type maker struct {
	step  int
	loose bool
}

func (m *maker) upTo(n int) int {
	m.step = (m.step*16807 + 12345) % 2147483647
	return m.step / 11 % n
}

// glyph is a function, often / or \.
func (m *maker) glyph() api.Fn {
	return []api.Fn{api.Slash, api.Slope, api.Add, api.Fn(1 + m.upTo(int(api.Slope)))}[m.upTo(4)]
}

// about puts Left and Right about an expression that needs them, or, if the maker
// is loose, about any.
func (m *maker) about(s said, needs bool) said {
	for needs || m.loose && m.upTo(4) == 0 {
		s = said{nodes: s.nodes, words: slices.Concat([]api.Token{sign(api.Left)}, s.words, []api.Token{sign(api.Right)})}
		needs = false
	}
	return s
}

// expression makes one of few nodes.
func (m *maker) expression(size int, within bool) said {
	if size <= 1 || m.upTo(8) == 0 {
		return m.about(m.atom(within), false)
	}
	switch m.upTo(5) {
	case 0, 1:
		return m.about(m.acting(size, within, api.IsOne), false)
	case 2, 3:
		return m.about(m.acting(size, within, api.IsTwo), false)
	}
	term := m.expression(size/2, within)
	term = m.about(term, term.acts)
	n := 1 + m.upTo(3)
	s := said{nodes: append([]api.Node{pick(n)}, term.nodes...), words: append(term.words, sign(api.Open))}
	for i := range n {
		if i > 0 {
			s.words = append(s.words, sign(api.Semi))
		}
		index := m.expression(size/3, within)
		s.nodes, s.words = append(s.nodes, index.nodes...), append(s.words, index.words...)
	}
	s.words = append(s.words, sign(api.Close))
	return m.about(s, false)
}

// atom makes an atom.
func (m *maker) atom(within bool) said {
	kinds := 3
	if within {
		kinds = 5
	}
	switch m.upTo(kinds) {
	case 0:
		var list []int
		var words []api.Token
		for range 1 + m.upTo(3) {
			list = append(list, m.upTo(9)-4)
			words = append(words, number(list[len(list)-1]))
		}
		return said{nodes: []api.Node{nums(list...)}, words: words}
	case 1:
		s := []string{"", "a", "'", "⍵ "}[m.upTo(4)]
		return said{nodes: []api.Node{text(s)}, words: []api.Token{chars(s)}}
	case 2:
		s := []string{"a", "b_2", "twelve_bytes"}[m.upTo(3)]
		return said{nodes: []api.Node{named(s)}, words: []api.Token{name(s)}}
	case 3:
		return said{nodes: []api.Node{alpha()}, words: []api.Token{sign(api.Alpha)}}
	}
	return said{nodes: []api.Node{omega()}, words: []api.Token{sign(api.Omega)}}
}

// acting makes an IsOne or IsTwo.
func (m *maker) acting(size int, within bool, op int) said {
	var left said
	if op == api.IsTwo {
		left = m.expression(size/2, within)
		left = m.about(left, left.acts)
	}
	node, function := m.function(size/3, within)
	node.Op = op
	right := m.expression(size/2, within)
	right = m.about(right, node.Act.Op == api.Plain && right.slashed)
	return said{
		nodes:   slices.Concat([]api.Node{node}, left.nodes, function.nodes, right.nodes),
		words:   slices.Concat(left.words, function.words, right.words),
		acts:    true,
		slashed: op == api.IsOne && function.slashed,
	}
}

// function makes what acts: the node of what does, and the nodes and words of it.
func (m *maker) function(size int, within bool) (api.Node, said) {
	f, g := m.glyph(), m.glyph()
	slashed := f == api.Slash || f == api.Slope
	kinds := 7
	if within {
		kinds = 8
	}
	switch m.upTo(kinds) {
	case 0:
		return one(act(api.Over, f)), said{words: []api.Token{glyph(f), glyph(api.Slash)}, slashed: slashed}
	case 1:
		return one(act(api.Along, f)), said{words: []api.Token{glyph(f), glyph(api.Slope)}, slashed: slashed}
	case 2:
		return one(act(api.Swap, f)), said{words: []api.Token{glyph(f), sign(api.Turned)}, slashed: slashed}
	case 3:
		return one(inner(f, g)), said{words: []api.Token{glyph(f), sign(api.Dot), glyph(g)}, slashed: slashed}
	case 4:
		return one(act(api.Outer, f)), said{words: []api.Token{sign(api.Jot), sign(api.Dot), glyph(f)}}
	case 5:
		return one(fn(f)), said{words: []api.Token{glyph(f)}, slashed: slashed}
	case 6:
		return m.written(size)
	}
	return one(self()), said{words: []api.Token{sign(api.Del)}}
}

// written makes a function that is written out.
func (m *maker) written(size int) (api.Node, said) {
	n := m.upTo(3)
	s := said{words: []api.Token{sign(api.Begin)}}
	for i := range 2*n + 1 {
		part := m.expression(size/2, true)
		end := []int{api.Colon, api.Diamond}[i%2]
		if i == 2*n {
			end = api.End
		}
		s.nodes = append(s.nodes, part.nodes...)
		s.words = slices.Concat(s.words, part.words, []api.Token{sign(end)})
	}
	return dfn(api.IsOne, n), s
}

// TR1 to TR5: expressions that are made as nodes and as words: those words say that
// tree, and of what has no Left and Right but where they must be, Print tells them.
func TestMade(t *testing.T) {
	tried := 0
	for seed := range 5000 {
		m := &maker{step: seed*7919 + 1, loose: seed%2 == 1}
		s := m.expression(1+seed%40, false)
		if seed%5 == 0 {
			s.nodes = slices.Concat([]api.Node{set("x")}, s.nodes)
			s.words = slices.Concat([]api.Token{name("x"), sign(api.Arrow)}, s.words)
		}
		if len(s.words) > api.MaxWords {
			continue
		}
		tried++
		wantTree(t, s.words, s.nodes...)
		if !m.loose {
			wantPrint(t, s.words, s.nodes...)
			wantAllNeeded(t, s.words, s.nodes)
		}
		for i := range s.words {
			wantAsGoneOver(t, s.words[:i])
		}
		if t.Failed() {
			return
		}
	}
	if tried < 3000 {
		t.Errorf("only %d expressions were short", tried)
	}
}

// whole is a part of a tree, written short.
func whole(own api.Node, given ...tree.Part) tree.Part { return tree.Part{Node: own, Given: given} }

// TR2, TR4: the parts of a tree, those of a function that is written out apart from
// those that it is given.
func TestWhole(t *testing.T) {
	called := whole(dfn(api.IsTwo, 1), whole(named("c")), whole(text("d")))
	called.Body = []tree.Part{whole(alpha()), whole(one(self()), whole(nums(2))), whole(omega())}
	alone := whole(dfn(api.IsOne, 0), whole(named("e")))
	alone.Body = []tree.Part{whole(pick(2), whole(omega()), whole(nums(1)), whole(nums(3, 4)))}
	lines := map[string]tree.Part{
		"1 2":                 whole(nums(1, 2)),
		"a←-b":                whole(set("a"), whole(one(fn(api.Sub)), whole(named("b")))),
		"a-b":                 whole(two(fn(api.Sub)), whole(named("a")), whole(named("b"))),
		"a[1;b]":              whole(pick(2), whole(named("a")), whole(nums(1)), whole(named("b"))),
		"c{⍺:∇2⋄⍵}'d'":        called,
		"{⍵[1;3 4]}e":         alone,
		"x←{⍵[1;3 4]}e":       whole(set("x"), alone),
		"(c{⍺:∇2⋄⍵}'d')[0]+1": whole(two(fn(api.Add)), whole(pick(1), called, whole(nums(0))), whole(nums(1))),
	}
	for line, want := range lines {
		nodes, _, err := tree.Parse(read(t, line))
		if err != nil {
			t.Fatalf("Parse(%q): got %v", line, err)
		}
		if got, err := tree.Whole(nodes); err != nil || !reflect.DeepEqual(got, want) {
			t.Errorf("Whole(%q): got %v, %v, want %v", line, got, err, want)
		}
	}
	for _, wrong := range [][]api.Node{nil, {omega()}, {nums()}, {nums(1), nums(1)}, make([]api.Node, api.MaxNodes+1)} {
		got, err := tree.Whole(wrong)
		if want := tree.Check(wrong); !reflect.DeepEqual(got, tree.Part{}) || plain.Told(err) != plain.Told(want) {
			t.Errorf("Whole(%v): got %v, %v, want nothing, %v", wrong, got, err, want)
		}
	}
}

// P2, P4: no list that is handed in is written into or kept, nor what lies behind
// its length; what comes out is fresh, and no two lists share any.
func TestFresh(t *testing.T) {
	backing := append(read(t, "a[1 2;3 4]"), sign(-1), sign(-2))
	kept := slices.Clone(backing)
	line := backing[:len(backing)-2]
	first, _, _ := tree.Parse(line)
	if !slices.Equal(backing, kept) {
		t.Errorf("Parse wrote: got %v, want %v", backing, kept)
	}
	second, _, _ := tree.Parse(line)
	for i := range first {
		_ = append(first[i].Nums, 9, 9, 9)
		for k := range first[i].Nums {
			first[i].Nums[k] = 8
		}
		first[i].Op = api.IsSet
	}
	if want := []api.Node{pick(2), named("a"), nums(1, 2), nums(3, 4)}; !same(second, want) {
		t.Errorf("Parse shares: got %v, want %v", second, want)
	}
	list := []int{1, 2, 3}
	nodes := []api.Node{two(fn(api.Add)), nums(list[:2]...), nums(5), nums()}
	before := []api.Node{two(fn(api.Add)), nums(1, 2), nums(5), nums()}
	nodes[1].Nums = list[:2]
	told, err := tree.Print(nodes[:3])
	again, _ := tree.Print(nodes[:3])
	if tree.Check(nodes[:3]) != nil || err != nil || !reflect.DeepEqual(nodes, before) || list[2] != 3 {
		t.Errorf("Check or Print wrote: got %v, %v, %v, want %v", nodes, list, err, before)
	}
	list[0], told[1] = 7, sign(api.Left)
	if want := []api.Token{number(1), number(2), glyph(api.Add), number(5)}; !slices.Equal(again, want) {
		t.Errorf("Print shares: got %v, want %v", again, want)
	}
}

// P4: fields that the chapter does not name are empty in what is told.
func TestBareNodes(t *testing.T) {
	nodes, _, _ := tree.Parse(read(t, "a←'b'+{⍵:⍺⋄∇c}1+.×2[0]"))
	want := []api.Node{
		{Op: api.IsSet, Text: "a"},
		{Op: api.IsTwo, Act: api.Act{F: api.Add}},
		{Op: api.IsText, Text: "b"},
		{Op: api.IsOne, Act: api.Act{Op: api.Dfn}, N: 1},
		{Op: api.IsOmega},
		{Op: api.IsAlpha},
		{Op: api.IsOne, Act: api.Act{Op: api.Self}},
		{Op: api.IsVar, Text: "c"},
		{Op: api.IsTwo, Act: api.Act{Op: api.Inner, F: api.Add, G: api.Mul}},
		{Op: api.IsNums, Nums: []int{1}},
		{Op: api.IsPick, N: 1},
		{Op: api.IsNums, Nums: []int{2}},
		{Op: api.IsNums, Nums: []int{0}},
	}
	if !reflect.DeepEqual(nodes, want) {
		t.Errorf("Parse: got %v, want %v", nodes, want)
	}
}
