package arr

import (
	"math"
	"slices"
	"strings"
	"testing"
	"unicode/utf8"

	"ravelin/api"
	"ravelin/plain"
	"ravelin/shape"
)

// nums and chars are arrays, written short.
func nums(s []int, data ...int) api.Array { return api.Array{Shape: s, Data: data} }

func chars(s []int, data ...int) api.Array { return api.Array{Char: true, Shape: s, Data: data} }

// upTo are the numbers from 0 to below n.
func upTo(n int) []int {
	var all []int
	for i := range n {
		all = append(all, i)
	}
	return all
}

// same asks all three fields, without Match.
func same(a, b api.Array) bool {
	return a.Char == b.Char && slices.Equal(a.Shape, b.Shape) && slices.Equal(a.Data, b.Data)
}

// empty tells if all of an array is false or empty, as it is with an error.
func empty(a api.Array) bool { return same(a, api.Array{}) }

func brief(a api.Array) (bool, []int, []int) {
	return a.Char, a.Shape, a.Data[:min(len(a.Data), 20)]
}

// wantArray holds what is told against what should be.
func wantArray(t *testing.T, got api.Array, err error, want api.Array) {
	t.Helper()
	if !same(got, want) || err != nil {
		gc, gs, gd := brief(got)
		wc, ws, wd := brief(want)
		t.Errorf("got %v %v %v, %v, want %v %v %v", gc, gs, gd, err, wc, ws, wd)
	}
}

// wantError holds what is told with an error against what should be.
func wantError(t *testing.T, got api.Array, err error, want api.Errno) {
	t.Helper()
	if !empty(got) || plain.Told(err) != want {
		c, s, d := brief(got)
		t.Errorf("got %v %v %v, %v, want nothing, %v", c, s, d, err, want)
	}
}

// wrong is an array with a fault, and what Check tells of it.
type wrong struct {
	a    api.Array
	want api.Errno
}

func wrongArrays() []wrong {
	m := api.MaxCells
	return []wrong{
		{nums([]int{1, 1, 1, 1, 1, 1, 1}, 5), api.ErrRank},
		{chars([]int{1, 1, 1, 1, 1, 1, -1}, -5), api.ErrRank},
		{nums([]int{-1}), api.ErrLength},
		{chars([]int{-1, m + 1}, -5), api.ErrLength},
		{nums([]int{m + 1, -1}), api.ErrFull},
		{nums([]int{m + 1}, upTo(m+1)...), api.ErrFull},
		{nums([]int{65, 64}, upTo(65*64)...), api.ErrFull},
		{chars([]int{m, 2}, -5), api.ErrFull},
		{nums([]int{math.MaxInt}), api.ErrFull},
		{api.Array{}, api.ErrLength},
		{chars(nil), api.ErrLength},
		{nums(nil, 1, 2), api.ErrLength},
		{nums([]int{0}, 1), api.ErrLength},
		{nums([]int{3, 0, 2}, 1), api.ErrLength},
		{nums([]int{2}, 1), api.ErrLength},
		{nums([]int{2}, 1, 2, 3), api.ErrLength},
		{nums([]int{2, 3}, 1, 2, 3, 4, 5), api.ErrLength},
		{nums([]int{m}, upTo(m-1)...), api.ErrLength},
		{nums([]int{m}, upTo(m+1)...), api.ErrLength},
		{chars([]int{2}, -1), api.ErrLength},
		{chars([]int{1}, 55296, 55296), api.ErrLength},
		{chars(nil, -1), api.ErrDomain},
		{chars([]int{1}, api.Least), api.ErrDomain},
		{chars([]int{1}, 55296), api.ErrDomain},
		{chars([]int{1}, 56000), api.ErrDomain},
		{chars([]int{1}, 57343), api.ErrDomain},
		{chars([]int{1}, 1114112), api.ErrDomain},
		{chars([]int{1}, 1<<32+65), api.ErrDomain},
		{chars([]int{1}, api.Greatest), api.ErrDomain},
		{chars([]int{3}, 97, 98, -1), api.ErrDomain},
		{chars([]int{2, 2}, 97, 1114112, 98, 99), api.ErrDomain},
	}
}

func rightArrays() []api.Array {
	m := api.MaxCells
	return []api.Array{
		nums(nil, 7),
		nums([]int{}, api.Least),
		chars(nil, 7),
		nums([]int{0}),
		{Shape: []int{0}, Data: []int{}},
		chars([]int{0}),
		nums([]int{0, 0}),
		nums([]int{3, 0}),
		nums([]int{m, m, 0}),
		nums([]int{1}, 7),
		nums([]int{2, 3}, 1, 2, 3, 4, 5, 6),
		nums([]int{3, 2}, 1, 2, 3, 4, 5, 6),
		nums([]int{6}, 1, 2, 3, 4, 5, 6),
		nums([]int{6}, 1, 2, 3, 4, 5, 7),
		nums([]int{6}, 0, 2, 3, 4, 5, 6),
		chars([]int{6}, 1, 2, 3, 4, 5, 6),
		nums([]int{5}, -1, 55296, 57343, 1114112, api.Greatest),
		nums([]int{1, 1, 1, 1, 1, 1}, -9),
		nums([]int{m}, upTo(m)...),
		nums([]int{64, 64}, upTo(m)...),
		chars([]int{4, 4, 4, 4, 4, 4}, upTo(m)...),
		chars([]int{6}, 0, 32, 55295, 57344, 65533, 1114111),
	}
}

// AR1: what is an array.
func TestCheckTakes(t *testing.T) {
	for _, a := range rightArrays() {
		if err := Check(a); err != nil {
			c, s, d := brief(a)
			t.Errorf("Check(%v %v %v): got %v", c, s, d, err)
		}
	}
}

// AR1: what is none, and which error comes first.
func TestCheckRefuses(t *testing.T) {
	for _, w := range wrongArrays() {
		if err := Check(w.a); plain.Told(err) != w.want {
			c, s, d := brief(w.a)
			t.Errorf("Check(%v %v %v): got %v, want %v", c, s, d, err, w.want)
		}
	}
}

// AR1: of more arrays the first one is checked first, and none is left out.
func TestCheckAllTellsTheFirst(t *testing.T) {
	right := rightArrays()
	if err := CheckAll(right[0], right[1:]...); err != nil {
		t.Errorf("CheckAll of right arrays: got %v", err)
	}
	for _, w := range wrongArrays() {
		for _, other := range wrongArrays() {
			for k, err := range []error{
				CheckAll(w.a),
				CheckAll(w.a, right...),
				CheckAll(w.a, other.a),
				CheckAll(right[0], w.a, right[1]),
				CheckAll(right[0], right[1], w.a),
				CheckAll(right[0], right[1], w.a, other.a),
			} {
				if plain.Told(err) != w.want {
					t.Errorf("call %d: got %v, want %v", k, err, w.want)
				}
			}
		}
	}
}

// AR1: characters are just those that can be written as UTF-8.
func TestCheckKnowsCharacters(t *testing.T) {
	for c := -300; c <= utf8.MaxRune+300; c++ {
		want := api.ErrDomain
		if utf8.ValidRune(rune(c)) {
			want = api.OK
		}
		if err := Check(chars(nil, c)); plain.Told(err) != want {
			t.Fatalf("Check of the character %d: got %v, want %v", c, err, want)
		}
		if err := Check(nums(nil, c)); err != nil {
			t.Fatalf("Check of the number %d: got %v", c, err)
		}
	}
}

// AR2: arrays are the same where Char, Shape and Data are.
func TestMatchTells(t *testing.T) {
	for i, a := range rightArrays() {
		for j, b := range rightArrays() {
			if got, err := Match(a, b); got != same(a, b) || err != nil {
				t.Errorf("Match of arrays %d and %d: got %v, %v", i, j, got, err)
			}
		}
	}
	for _, c := range []struct {
		a, b api.Array
		want bool
	}{
		{nums(nil, 7), nums([]int{}, 7), true},
		{nums([]int{0}), api.Array{Shape: []int{0}, Data: []int{}}, true},
		{nums(nil, 7), nums([]int{1}, 7), false},
		{nums([]int{1}, 7), nums([]int{1, 1}, 7), false},
		{nums([]int{0}), nums([]int{0, 0}), false},
		{nums([]int{0}), chars([]int{0}), false},
		{nums([]int{0, 2}), nums([]int{2, 0}), false},
		{nums(nil, 65), chars(nil, 65), false},
		{nums([]int{2}, 1, 2), nums([]int{2}, 1, 2), true},
		{nums([]int{2}, 1, 2), nums([]int{2}, 2, 1), false},
		{nums([]int{2}, 1, 2), nums([]int{1}, 1), false},
	} {
		if got, err := Match(c.a, c.b); got != c.want || err != nil {
			t.Errorf("Match(%v, %v): got %v, %v, want %v", c.a, c.b, got, err, c.want)
		}
	}
}

// AR2: both are checked, the first one first.
func TestMatchRefuses(t *testing.T) {
	right := nums([]int{2}, 1, 2)
	for _, w := range wrongArrays() {
		pairs := [][2]api.Array{{w.a, w.a}, {w.a, right}, {right, w.a}}
		for _, v := range wrongArrays() {
			pairs = append(pairs, [2]api.Array{w.a, v.a})
		}
		for k, p := range pairs {
			if got, err := Match(p[0], p[1]); got || plain.Told(err) != w.want {
				t.Errorf("Match, pair %d: got %v, %v, want false, %v", k, got, err, w.want)
			}
		}
	}
}

// AR2: all cells on one axis.
func TestRavelTells(t *testing.T) {
	for _, c := range []struct{ a, want api.Array }{
		{nums(nil, 7), nums([]int{1}, 7)},
		{chars(nil, 97), chars([]int{1}, 97)},
		{nums([]int{0}), nums([]int{0})},
		{nums([]int{3, 0}), nums([]int{0})},
		{chars([]int{0, 2, 5}), chars([]int{0})},
		{nums([]int{3}, 3, 1, 2), nums([]int{3}, 3, 1, 2)},
		{nums([]int{2, 2}, 1, 2, 3, 4), nums([]int{4}, 1, 2, 3, 4)},
		{chars([]int{2, 1, 2}, 97, 98, 99, 97), chars([]int{4}, 97, 98, 99, 97)},
		{nums([]int{64, 64}, upTo(4096)...), nums([]int{4096}, upTo(4096)...)},
	} {
		got, err := Ravel(c.a)
		wantArray(t, got, err, c.want)
	}
	for _, a := range rightArrays() {
		got, err := Ravel(a)
		wantArray(t, got, err, api.Array{Char: a.Char, Shape: []int{len(a.Data)}, Data: a.Data})
	}
}

// AR2: what Ravel refuses.
func TestRavelRefuses(t *testing.T) {
	for _, w := range wrongArrays() {
		got, err := Ravel(w.a)
		wantError(t, got, err, w.want)
	}
}

// AR3: the cells in order, and from the first one on again.
func TestReshapeTells(t *testing.T) {
	for _, c := range []struct {
		s       []int
		a, want api.Array
	}{
		{nil, nums(nil, 7), nums(nil, 7)},
		{nil, nums([]int{2}, 7, 8), nums(nil, 7)},
		{[]int{}, chars([]int{2}, 97, 98), chars(nil, 97)},
		{[]int{3}, nums(nil, 7), nums([]int{3}, 7, 7, 7)},
		{[]int{2, 2}, nums([]int{3}, 1, 2, 3), nums([]int{2, 2}, 1, 2, 3, 1)},
		{[]int{7}, chars([]int{1, 3}, 97, 98, 99), chars([]int{7}, 97, 98, 99, 97, 98, 99, 97)},
		{[]int{3, 2}, nums([]int{2, 3}, 1, 2, 3, 4, 5, 6), nums([]int{3, 2}, 1, 2, 3, 4, 5, 6)},
		{[]int{2}, nums([]int{2, 2}, 1, 2, 3, 4), nums([]int{2}, 1, 2)},
		{[]int{0}, nums([]int{2}, 1, 2), nums([]int{0})},
		{[]int{2, 0}, chars([]int{2}, 97, 98), chars([]int{2, 0})},
		{[]int{4096}, nums([]int{64, 64}, upTo(4096)...), nums([]int{4096}, upTo(4096)...)},
		{[]int{1, 1, 1, 1, 1, 1}, nums(nil, 5), nums([]int{1, 1, 1, 1, 1, 1}, 5)},
	} {
		got, err := Reshape(c.s, c.a)
		wantArray(t, got, err, c.want)
	}
}

// AR3: of an array without cells, fills.
func TestReshapeFills(t *testing.T) {
	for _, none := range [][]int{{0}, {3, 0}, {0, 4096, 4096}} {
		for _, c := range []struct {
			s       []int
			a, want api.Array
		}{
			{nil, nums(none), nums(nil, 0)},
			{nil, chars(none), chars(nil, 32)},
			{[]int{2}, nums(none), nums([]int{2}, 0, 0)},
			{[]int{2, 2}, chars(none), chars([]int{2, 2}, 32, 32, 32, 32)},
			{[]int{0}, nums(none), nums([]int{0})},
			{[]int{5, 0}, chars(none), chars([]int{5, 0})},
		} {
			got, err := Reshape(c.s, c.a)
			wantArray(t, got, err, c.want)
		}
	}
}

// AR3: each place has the cell at that place, counted round.
func TestReshapeCycles(t *testing.T) {
	for _, a := range rightArrays() {
		for _, s := range [][]int{nil, {0}, {1}, {5}, {13}, {4, 0}, {2, 3}, {3, 5, 7}, {17, 240}, {64, 64}, {4096}} {
			got, err := Reshape(s, a)
			count, _ := shape.Count(s)
			if err != nil || got.Char != a.Char || !slices.Equal(got.Shape, s) || len(got.Data) != count {
				t.Fatalf("Reshape to %v: got %v, %d cells, %v", s, got.Shape, len(got.Data), err)
			}
			for place, c := range got.Data {
				want := 0
				if a.Char {
					want = ' '
				}
				if len(a.Data) > 0 {
					want = a.Data[place%len(a.Data)]
				}
				if c != want {
					t.Fatalf("Reshape to %v: got %d at %d, want %d", s, c, place, want)
				}
			}
		}
	}
}

// AR3: the shape is looked at ahead of the array.
func TestReshapeRefuses(t *testing.T) {
	m := api.MaxCells
	shapes := []struct {
		s    []int
		want api.Errno
	}{
		{[]int{1, 1, 1, 1, 1, 1, 1}, api.ErrRank},
		{[]int{0, 0, 0, 0, 0, 0, -1}, api.ErrRank},
		{[]int{-1}, api.ErrLength},
		{[]int{0, math.MinInt}, api.ErrLength},
		{[]int{m + 1, -1}, api.ErrFull},
		{[]int{m + 1}, api.ErrFull},
		{[]int{0, math.MaxInt}, api.ErrFull},
		{[]int{2, m}, api.ErrFull},
		{[]int{m, m, m, m, m, m}, api.ErrFull},
	}
	for _, c := range shapes {
		for _, a := range rightArrays() {
			got, err := Reshape(c.s, a)
			wantError(t, got, err, c.want)
		}
		for _, w := range wrongArrays() {
			got, err := Reshape(c.s, w.a)
			wantError(t, got, err, c.want)
		}
	}
	for _, w := range wrongArrays() {
		for _, s := range [][]int{nil, {0}, {2}, {m}} {
			got, err := Reshape(s, w.a)
			wantError(t, got, err, w.want)
		}
	}
}

// P2: a copy is the same array, and shares no memory with it.
func TestCopy(t *testing.T) {
	for _, a := range rightArrays() {
		kept := api.Array{Char: a.Char, Shape: slices.Clone(a.Shape), Data: slices.Clone(a.Data)}
		got := Copy(a)
		wantArray(t, got, nil, kept)
		for _, list := range [][]int{got.Shape, got.Data} {
			for i := range list {
				list[i] = -77
			}
		}
		wantArray(t, a, nil, kept)
	}
	backing := []int{1, 2, 3}
	got := Copy(nums(backing[:0], backing[:0]...))
	_, _ = append(got.Shape, 8), append(got.Data, 9)
	if !slices.Equal(backing, []int{1, 2, 3}) {
		t.Errorf("Copy shares what lies behind empty lists: got %v", backing)
	}
}

// AR4: the numbers from 0 on.
func TestIotaTells(t *testing.T) {
	for _, n := range []int{0, 1, 2, 3, 100, api.MaxCells - 1, api.MaxCells} {
		got, err := Iota(n)
		wantArray(t, got, err, nums([]int{n}, upTo(n)...))
	}
}

// AR4: what Iota refuses.
func TestIotaRefuses(t *testing.T) {
	for n, want := range map[int]api.Errno{
		-1:               api.ErrDomain,
		-api.MaxCells:    api.ErrDomain,
		api.Least:        api.ErrDomain,
		api.MaxCells + 1: api.ErrFull,
		1 << 32:          api.ErrFull,
		api.Greatest:     api.ErrFull,
	} {
		got, err := Iota(n)
		wantError(t, got, err, want)
	}
}

// AR4: a text's characters, however many bytes they have.
func TestTextTells(t *testing.T) {
	m := api.MaxCells
	for _, c := range []struct {
		s    string
		want api.Array
	}{
		{"", chars([]int{0})},
		{"a", chars([]int{1}, 97)},
		{"aω", chars([]int{2}, 97, 969)},
		{"⍳3\n'\x00\x7f", chars([]int{6}, 9075, 51, 10, 39, 0, 127)},
		{"e\u0301", chars([]int{2}, 101, 769)},
		{"\ufeff\ufffd", chars([]int{2}, 65279, 65533)},
		{"\u0080\u07ff\u0800\ud7ff\ue000\uffff", chars([]int{6}, 128, 2047, 2048, 55295, 57344, 65535)},
		{"\U00010000\U0010ffff", chars([]int{2}, 65536, 1114111)},
		{strings.Repeat("a", m), chars([]int{m}, slices.Repeat([]int{97}, m)...)},
		{strings.Repeat("\U0010ffff", m), chars([]int{m}, slices.Repeat([]int{1114111}, m)...)},
	} {
		got, err := Text(c.s)
		wantArray(t, got, err, c.want)
	}
}

// AR4: each character there is, in pieces that an array can hold.
func TestTextTellsEachCharacter(t *testing.T) {
	var piece []rune
	for c := rune(0); c <= utf8.MaxRune; c++ {
		if utf8.ValidRune(c) {
			piece = append(piece, c)
		}
		if len(piece) < api.MaxCells && c < utf8.MaxRune {
			continue
		}
		got, err := Text(string(piece))
		if err != nil || Check(got) != nil || !got.Char || !slices.Equal(got.Shape, []int{len(piece)}) {
			t.Fatalf("Text of the characters to %d: got %v, %v", c, got.Shape, err)
		}
		for i, r := range piece {
			if got.Data[i] != int(r) {
				t.Fatalf("Text: got %d, want %d", got.Data[i], r)
			}
		}
		piece = nil
	}
}

// AR4: what Text refuses, and which error comes first.
func TestTextRefuses(t *testing.T) {
	m := api.MaxCells
	for _, bad := range []string{
		"\x80", "\xbf", "\xc3", "\xe2\x8d", "\xf0\x90\x80", "\xff", "\xfe",
		"\xc0\x80", "\xc1\xbf", "\xe0\x80\x80", "\xf0\x80\x80\x80",
		"\xed\xa0\x80", "\xed\xbf\xbf", "\xf4\x90\x80\x80", "\xf8\x88\x80\x80\x80",
	} {
		for _, s := range []string{
			bad, "a" + bad, bad + "a", "ω" + bad + "ω",
			strings.Repeat("a", m-1) + bad,
			strings.Repeat("a", m) + bad,
			strings.Repeat("a", m+1) + bad,
			strings.Repeat("ω", 3*m) + bad,
			bad + strings.Repeat("a", 2*m),
		} {
			got, err := Text(s)
			wantError(t, got, err, api.ErrDomain)
		}
	}
	for _, s := range []string{
		strings.Repeat("a", m+1),
		strings.Repeat("\U0010ffff", m+1),
		strings.Repeat("\ufffd", 3*m),
	} {
		got, err := Text(s)
		wantError(t, got, err, api.ErrFull)
	}
}

// spoil writes over all memory that an array hands out.
func spoil(a api.Array) {
	for _, list := range [][]int{a.Shape[:cap(a.Shape)], a.Data[:cap(a.Data)]} {
		for i := range list {
			list[i] = -9
		}
	}
}

// P2, P4: what is handed in stays as it is, behind its length too, and what
// comes out is fresh memory.
func TestListsAreNeitherWrittenNorShared(t *testing.T) {
	sBack, shapeBack, dataBack := []int{2, 2, -7}, []int{2, 2, -8}, []int{3, 1, 2, 0, -9}
	s, a := sBack[:2], nums(shapeBack[:2], dataBack[:4]...)
	none := nums([]int{0}, dataBack[:0]...)
	Check(a)
	Match(a, a)
	for k, tell := range []func() (api.Array, error){
		func() (api.Array, error) { return Ravel(a) },
		func() (api.Array, error) { return Ravel(none) },
		func() (api.Array, error) { return Reshape(s, a) },
		func() (api.Array, error) { return Reshape(a.Shape, a) },
		func() (api.Array, error) { return Reshape(s, none) },
		func() (api.Array, error) { return Reshape(sBack[:0], a) },
		func() (api.Array, error) { return Reshape(dataBack[3:4], a) },
		func() (api.Array, error) { return Iota(2) },
		func() (api.Array, error) { return Text("ab") },
	} {
		first, err := tell()
		if err != nil {
			t.Fatal(err)
		}
		kept := api.Array{Char: first.Char, Shape: slices.Clone(first.Shape), Data: slices.Clone(first.Data)}
		spoil(api.Array{Shape: first.Shape})
		if !slices.Equal(first.Data, kept.Data) {
			t.Errorf("call %d: its two lists share memory", k)
		}
		spoil(first)
		again, err := tell()
		wantArray(t, again, err, kept)
	}
	if !slices.Equal(sBack, []int{2, 2, -7}) || !slices.Equal(shapeBack, []int{2, 2, -8}) || !slices.Equal(dataBack, []int{3, 1, 2, 0, -9}) {
		t.Errorf("written into: %v, %v, %v", sBack, shapeBack, dataBack)
	}
}

// What is cycled may be of any kind.
func TestCycleOfOtherThings(t *testing.T) {
	if got := cycle([]string{"a", "b"}, 5, "-"); !slices.Equal(got, []string{"a", "b", "a", "b", "a"}) {
		t.Errorf("got %v", got)
	}
	if got := cycle(nil, 2, "-"); !slices.Equal(got, []string{"-", "-"}) {
		t.Errorf("got %v", got)
	}
}
