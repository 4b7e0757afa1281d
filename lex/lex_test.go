package lex

import (
	"math"
	"math/big"
	"regexp"
	"slices"
	"strconv"
	"strings"
	"testing"
	"unicode/utf8"

	"ravelin/api"
	"ravelin/plain"
)

// number, chars, name, glyph and sign are words, written short.
func number(at, n int) api.Token { return api.Token{Kind: api.Number, Num: n, At: at} }

func chars(at int, text string) api.Token { return api.Token{Kind: api.Chars, Text: text, At: at} }

func name(at int, text string) api.Token { return api.Token{Kind: api.Name, Text: text, At: at} }

func glyph(at int, f api.Fn) api.Token { return api.Token{Kind: api.Glyph, Fn: f, At: at} }

func sign(at, kind int) api.Token { return api.Token{Kind: kind, At: at} }

// functionSigns are all signs of functions, by their numbers, and otherSigns all
// other signs, by their kinds.
func functionSigns() map[api.Fn]string {
	return map[api.Fn]string{
		api.Add: "+", api.Sub: "-", api.Mul: "\u00d7", api.Div: "\u00f7", api.Res: "|",
		api.Max: "\u2308", api.Min: "\u230a", api.Eq: "=", api.Ne: "\u2260", api.Lt: "<",
		api.Le: "\u2264", api.Ge: "\u2265", api.Gt: ">", api.And: "\u2227", api.Or: "\u2228",
		api.Pow: "*", api.Not: "~", api.Rho: "\u2374", api.Comma: ",", api.Turn: "\u233d",
		api.Flip: "\u2349", api.Take: "\u2191", api.Drop: "\u2193", api.Iota: "\u2373",
		api.In: "\u220a", api.Up: "\u234b", api.Down: "\u2352", api.Cup: "\u222a",
		api.Cap: "\u2229", api.Base: "\u22a5", api.Anti: "\u22a4", api.Same: "\u2261",
		api.Slash: "/", api.Slope: "\\",
	}
}

func otherSigns() map[int]string {
	return map[int]string{
		api.Left: "(", api.Right: ")", api.Open: "[", api.Close: "]", api.Semi: ";",
		api.Arrow: "\u2190", api.Jot: "\u2218", api.Dot: ".", api.Turned: "\u2368",
		api.Begin: "{", api.End: "}", api.Colon: ":", api.Diamond: "\u22c4",
		api.Alpha: "\u237a", api.Omega: "\u2375", api.Del: "\u2207",
	}
}

// brief are the first ones of words, with short texts.
func brief(words []api.Token) []api.Token {
	short := slices.Clone(words[:min(len(words), 10)])
	for i := range short {
		short[i].Text = short[i].Text[:min(len(short[i].Text), 20)]
	}
	return short
}

// wantWords holds what Read tells of a line against the words that it should.
func wantWords(t *testing.T, src string, want ...api.Token) {
	t.Helper()
	words, at, err := Read(src)
	if !slices.Equal(words, want) || at != 0 || err != nil {
		t.Errorf("Read(%.60q): got %v, %d, %v, want %v", src, brief(words), at, err, brief(want))
	}
}

// wantWrong holds what Read tells of a wrong line against what it should.
func wantWrong(t *testing.T, src string, at int, want api.Errno) {
	t.Helper()
	words, got, err := Read(src)
	if len(words) != 0 || got != at || plain.Told(err) != want {
		t.Errorf("Read(%.60q): got %v, %d, %v, want nothing, %d, %v", src, brief(words), got, err, at, want)
	}
}

// wantLine holds what Spell tells of words against the line that it should.
func wantLine(t *testing.T, want string, words ...api.Token) {
	t.Helper()
	if line, err := Spell(words); line != want || err != nil {
		t.Errorf("Spell(%v): got %.60q, %v, want %.60q", brief(words), line, err, want)
	}
}

// wantNoLine holds what Spell tells of wrong words against what it should.
func wantNoLine(t *testing.T, want api.Errno, words ...api.Token) {
	t.Helper()
	if line, err := Spell(words); line != "" || plain.Told(err) != want {
		t.Errorf("Spell(%v): got %.60q, %v, want nothing, %v", brief(words), line, err, want)
	}
}

// times is a word as often as told.
func times(n int, word api.Token) []api.Token { return slices.Repeat([]api.Token{word}, n) }

// LX1: the words of a line, and where they begin.
func TestRead(t *testing.T) {
	wantWords(t, "")
	wantWords(t, "   ")
	wantWords(t, "¯12+ab_1 'it''s' ⍝ x",
		number(0, -12), glyph(4, api.Add), name(5, "ab_1"), chars(10, "it's"))
	wantWords(t, "a←⍳3", name(0, "a"), sign(1, api.Arrow), glyph(4, api.Iota), number(7, 3))
	wantWords(t, "{⍺=0:⍵⋄∇}", sign(0, api.Begin), sign(1, api.Alpha), glyph(4, api.Eq), number(5, 0),
		sign(6, api.Colon), sign(7, api.Omega), sign(10, api.Diamond), sign(13, api.Del), sign(16, api.End))
	wantWords(t, "m[1;2]", name(0, "m"), sign(1, api.Open), number(2, 1), sign(3, api.Semi),
		number(4, 2), sign(5, api.Close))
	wantWords(t, "+.×∘.-⍨", glyph(0, api.Add), sign(1, api.Dot), glyph(2, api.Mul), sign(4, api.Jot),
		sign(7, api.Dot), glyph(8, api.Sub), sign(9, api.Turned))
}

// LX1: blanks may stand between words, and end the one ahead of them.
func TestReadBlanks(t *testing.T) {
	wantWords(t, "1 2", number(0, 1), number(2, 2))
	wantWords(t, "  1   2  ", number(2, 1), number(6, 2))
	wantWords(t, "ab c", name(0, "ab"), name(3, "c"))
	wantWords(t, "+ / ", glyph(0, api.Add), glyph(2, api.Slash))
	wantWords(t, " 'a  b' ", chars(1, "a  b"))
	wantWords(t, "'a' 'b'", chars(0, "a"), chars(4, "b"))
	wantWrong(t, "¯ 1", 0, api.ErrSyntax)
	for _, other := range []string{"\t", "\n", "\r", "\v", "\x00", "\u00a0", "\u3000"} {
		wantWrong(t, "1"+other+"2", 1, api.ErrSyntax)
		wantWrong(t, other, 0, api.ErrSyntax)
	}
}

// LX1: words stand side by side without blanks, too.
func TestReadWithoutBlanks(t *testing.T) {
	wantWords(t, "1a", number(0, 1), name(1, "a"))
	wantWords(t, "1¯2¯3", number(0, 1), number(1, -2), number(4, -3))
	wantWords(t, "a1¯2", name(0, "a1"), number(2, -2))
	wantWords(t, "a'b'c", name(0, "a"), chars(1, "b"), name(4, "c"))
	wantWords(t, "1'b'2", number(0, 1), chars(1, "b"), number(4, 2))
	wantWords(t, "1-2", number(0, 1), glyph(1, api.Sub), number(2, 2))
	wantWords(t, "1.5", number(0, 1), sign(1, api.Dot), number(2, 5))
	wantWords(t, "a.b", name(0, "a"), sign(1, api.Dot), name(2, "b"))
	wantWords(t, "((", sign(0, api.Left), sign(1, api.Left))
	wantWords(t, "<=", glyph(0, api.Lt), glyph(1, api.Eq))
}

// LX1: where a word would begin, and there is a ⍝, nothing more is read.
func TestReadComments(t *testing.T) {
	wantWords(t, "⍝")
	wantWords(t, " ⍝ 1 2")
	wantWords(t, "1⍝2", number(0, 1))
	wantWords(t, "a⍝b", name(0, "a"))
	wantWords(t, "+⍝", glyph(0, api.Add))
	wantWords(t, "'a'⍝'", chars(0, "a"))
	wantWords(t, "'a⍝b' ⍝", chars(0, "a⍝b"))
	wantWrong(t, "¯⍝1", 0, api.ErrSyntax)
	wantWords(t, "'⍝'⍝' '", chars(0, "⍝"))
}

// LX2: bytes behind a ⍝ are not looked at.
func TestReadBehindComments(t *testing.T) {
	for _, behind := range []string{
		"'", "¯", "\xff", "\xe2\x8d", "\n\t", "averylongname", "9223372036854775808", "_", "⍝", strings.Repeat("1 ", 300),
	} {
		wantWords(t, "1 ⍝"+behind, number(0, 1))
	}
	ones := strings.Repeat("1 ", api.MaxWords)
	if words, at, err := Read(ones + "⍝ 1"); len(words) != api.MaxWords || at != 0 || err != nil {
		t.Errorf("Read of %d words and a comment: got %d, %d, %v", api.MaxWords, len(words), at, err)
	}
	wantWrong(t, "1 \xe2\x8d", 2, api.ErrSyntax)
}

// LX1: each sign is the word that the chapter gives it.
func TestReadSigns(t *testing.T) {
	if len(functionSigns()) != int(api.Slope) || len(otherSigns()) != api.Del-api.Left+1 {
		t.Fatalf("got %d and %d signs", len(functionSigns()), len(otherSigns()))
	}
	for f, spelt := range functionSigns() {
		wantWords(t, spelt, glyph(0, f))
		wantWords(t, "a"+spelt+spelt+"'b'", name(0, "a"), glyph(1, f), glyph(1+len(spelt), f), chars(1+2*len(spelt), "b"))
	}
	for kind, spelt := range otherSigns() {
		wantWords(t, spelt, sign(0, kind))
		wantWords(t, "1"+spelt+spelt+"2", number(0, 1), sign(1, kind), sign(1+len(spelt), kind), number(1+2*len(spelt), 2))
	}
}

// LX1, LX2: no word begins with another character, or with a byte that is no
// character's.
func TestReadEachCharacter(t *testing.T) {
	begins := "0123456789 " + "ABCDEFGHIJKLMNOPQRSTUVWXYZabcdefghijklmnopqrstuvwxyz" + "⍝"
	for _, spelt := range functionSigns() {
		begins += spelt
	}
	for _, spelt := range otherSigns() {
		begins += spelt
	}
	for char := rune(0); char <= 70000; char++ {
		if spelt := string(char); !strings.Contains(begins, spelt) {
			wantWrong(t, "a "+spelt, 2, api.ErrSyntax)
		}
	}
	for b := 128; b < 256; b++ {
		wantWrong(t, "1 "+string([]byte{byte(b)}), 2, api.ErrSyntax)
		wantWrong(t, "1 "+string([]byte{byte(b), ' '}), 2, api.ErrSyntax)
	}
	for _, cut := range []string{"\xe2", "\xe2\x8d", "\xc3", "\xc2", "\xe2\x86 \x90", "\xf0\x9f\x98", "\xc0\xab", "\xe0\x80\xab"} {
		wantWrong(t, "1 "+cut, 2, api.ErrSyntax)
	}
}

// LX1: a Number is ¯, if it is below 0, and digits, as many as there are.
func TestReadNumbers(t *testing.T) {
	wantWords(t, "0", number(0, 0))
	wantWords(t, "007", number(0, 7))
	wantWords(t, "¯007", number(0, -7))
	wantWords(t, "¯0", number(0, 0))
	wantWords(t, "1234567890", number(0, 1234567890))
	wantWords(t, "9223372036854775807", number(0, math.MaxInt))
	wantWords(t, "¯9223372036854775808", number(0, math.MinInt))
	wantWords(t, strings.Repeat("0", 900)+"12", number(0, 12))
	wantWords(t, "¯"+strings.Repeat("0", 900)+"9223372036854775808", number(0, math.MinInt))
	wantWords(t, "0x1", number(0, 0), name(1, "x1"))
	wantWords(t, "1e5", number(0, 1), name(1, "e5"))
	wantWords(t, "+5", glyph(0, api.Add), number(1, 5))
	wantWords(t, "-5", glyph(0, api.Sub), number(1, 5))
}

// LX2: wrong Numbers.
func TestReadWrongNumbers(t *testing.T) {
	wantWrong(t, "¯", 0, api.ErrSyntax)
	wantWrong(t, "a ¯", 2, api.ErrSyntax)
	wantWrong(t, "¯a", 0, api.ErrSyntax)
	wantWrong(t, "¯¯1", 0, api.ErrSyntax)
	wantWrong(t, "1¯", 1, api.ErrSyntax)
	wantWrong(t, "¯-1", 0, api.ErrSyntax)
	wantWrong(t, "1_0", 1, api.ErrSyntax)
	wantWrong(t, "١", 0, api.ErrSyntax)
	wantWrong(t, "1 9223372036854775808", 2, api.ErrDomain)
	wantWrong(t, "¯9223372036854775809", 0, api.ErrDomain)
	wantWrong(t, "  18446744073709551617", 2, api.ErrDomain)
	wantWrong(t, "1 2 ¯"+strings.Repeat("9", 900), 4, api.ErrDomain)
	wantWrong(t, "9223372036854775808a", 0, api.ErrDomain)
}

// LX1: Chars are what stands between two quotes, two of which stand for one there.
func TestReadChars(t *testing.T) {
	wantWords(t, "''", chars(0, ""))
	wantWords(t, "'a'", chars(0, "a"))
	wantWords(t, "'it''s'", chars(0, "it's"))
	wantWords(t, "''''", chars(0, "'"))
	wantWords(t, "''''''", chars(0, "''"))
	wantWords(t, "'''a'''", chars(0, "'a'"))
	wantWords(t, "'a''''b'", chars(0, "a''b"))
	wantWords(t, "'' ''", chars(0, ""), chars(3, ""))
	wantWords(t, "'\"\\n'", chars(0, "\"\\n"))
	wantWords(t, "'ω⍝¯'1", chars(0, "ω⍝¯"), number(9, 1))
	wantWords(t, "' \x7f\u0080\u00a0\u2028\ufffd\ufeff\U0010ffff'", chars(0, " \x7f\u0080\u00a0\u2028\ufffd\ufeff\U0010ffff"))
}

// LX2: wrong Chars.
func TestReadWrongChars(t *testing.T) {
	for _, wrong := range []string{"'", "'b", "'''", "'a''", "'''''", "'a⍝"} {
		wantWrong(t, "a "+wrong, 2, api.ErrSyntax)
	}
	wantWrong(t, "'a'b'", 4, api.ErrSyntax)
	for char := range rune(32) {
		wantWrong(t, " 'a"+string(char)+"'", 1, api.ErrSyntax)
		wantWrong(t, " '"+string(char)+"a' '", 1, api.ErrSyntax)
	}
	for _, wrong := range []string{
		"\xff", "\x80", "\xe2\x8d", "a\xc3", "\xc0\x80", "\xed\xa0\x80", "\xf4\x90\x80\x80", "\xe2''\x8d\x9d", "a\xffb",
	} {
		wantWrong(t, "1 '"+wrong+"' 2", 2, api.ErrSyntax)
	}
}

// LX1, LX2: a Name is a letter and letters, digits and _, as many as there are.
func TestReadNames(t *testing.T) {
	wantWords(t, "a", name(0, "a"))
	wantWords(t, "Z", name(0, "Z"))
	wantWords(t, "azAZ09_", name(0, "azAZ09_"))
	wantWords(t, "a_", name(0, "a_"))
	wantWords(t, "x__1", name(0, "x__1"))
	wantWords(t, "twelve_bytes", name(0, "twelve_bytes"))
	wantWrong(t, "_a", 0, api.ErrSyntax)
	wantWrong(t, "aé", 1, api.ErrSyntax)
	wantWrong(t, "é", 0, api.ErrSyntax)
	wantWrong(t, "averylongname", 0, api.ErrFull)
	wantWrong(t, "1 "+strings.Repeat("x", 900), 2, api.ErrFull)
	wantWrong(t, "a _1234567890123", 2, api.ErrSyntax)
}

// LX2: a line longer than MaxLine bytes, whatever else is wrong.
func TestReadLongLines(t *testing.T) {
	wantWords(t, strings.Repeat(" ", api.MaxLine-1)+"a", name(api.MaxLine-1, "a"))
	wantWords(t, strings.Repeat(" ", api.MaxLine))
	wantWords(t, "⍝"+strings.Repeat("x", api.MaxLine-len("⍝")))
	wantWords(t, "'"+strings.Repeat("a", api.MaxLine-2)+"'", chars(0, strings.Repeat("a", api.MaxLine-2)))
	wantWrong(t, strings.Repeat(" ", api.MaxLine+1), 0, api.ErrFull)
	wantWrong(t, "⍝"+strings.Repeat("x", api.MaxLine-len("⍝")+1), 0, api.ErrFull)
	wantWrong(t, "_"+strings.Repeat("⍴", api.MaxLine), 0, api.ErrFull)
	wantWrong(t, strings.Repeat("⍴", api.MaxLine/3+1), 0, api.ErrFull)
	wantWrong(t, strings.Repeat("'", 1<<20), 0, api.ErrFull)
}

// LX2: right words behind MaxWords ones.
func TestReadManyWords(t *testing.T) {
	signs := strings.Repeat("+", api.MaxWords)
	if words, at, err := Read(signs); len(words) != api.MaxWords || at != 0 || err != nil {
		t.Errorf("Read of %d words: got %d, %d, %v", api.MaxWords, len(words), at, err)
	}
	for _, right := range []string{"+", "(", "1", "¯1", "'a'", "''", "a", "+ _", "a ''' ", "1 9223372036854775808"} {
		wantWrong(t, signs+right, api.MaxWords, api.ErrFull)
		wantWrong(t, signs+" "+right, api.MaxWords+1, api.ErrFull)
	}
	// A wrong word tells what is wrong with it, however many are ahead of it.
	for _, wrong := range []string{"_", "¯", "'", "'\t'", "\xff"} {
		wantWrong(t, signs+" "+wrong, api.MaxWords+1, api.ErrSyntax)
	}
	wantWrong(t, signs+"9223372036854775808", api.MaxWords, api.ErrDomain)
	wantWrong(t, signs+"averylongname", api.MaxWords, api.ErrFull)
	wantWrong(t, strings.Repeat("+", api.MaxWords+50)+"_", api.MaxWords, api.ErrFull)
}

// LX2: what is wrong with the first word that is wrong is told.
func TestReadFirstWrong(t *testing.T) {
	wrong := []struct {
		word string
		err  api.Errno
	}{
		{"_", api.ErrSyntax}, {"¯", api.ErrSyntax}, {"'\x01'", api.ErrSyntax},
		{"9223372036854775808", api.ErrDomain}, {"averylongname", api.ErrFull},
	}
	for _, first := range wrong {
		for _, second := range wrong {
			wantWrong(t, "1 "+first.word+" "+second.word, 2, first.err)
		}
		wantWrong(t, "1 "+first.word+" 'a", 2, first.err)
	}
}

// readPlainly is Read by the chapter's words, by patterns. It tells the words ahead
// of the first one that is wrong, where that one begins, and what is wrong.
func readPlainly(src string) ([]api.Token, int, api.Errno) {
	var (
		digits  = regexp.MustCompile(`^(¯?)([0-9]+)`)
		letters = regexp.MustCompile(`^[A-Za-z][A-Za-z0-9_]*`)
		between = regexp.MustCompile(`^(?:[^']|'')*`)
	)
	if len(src) > 1000 {
		return nil, 0, api.ErrFull
	}
	var words []api.Token
	for at := 0; at < len(src); {
		rest := src[at:]
		if rest[0] == ' ' {
			at++
			continue
		}
		if strings.HasPrefix(rest, "⍝") {
			break
		}
		word, size, err := api.Token{At: at}, 0, api.OK
		if found := digits.FindStringSubmatch(rest); found != nil {
			word.Kind, size = api.Number, len(found[0])
			n, _ := new(big.Int).SetString(found[2], 10)
			if found[1] != "" {
				n.Neg(n)
			}
			if !n.IsInt64() {
				err = api.ErrDomain
			}
			word.Num = int(n.Int64())
		} else if found := letters.FindString(rest); found != "" {
			word.Kind, word.Text, size = api.Name, found, len(found)
			if size > 12 {
				err = api.ErrFull
			}
		} else if rest[0] == '\'' {
			body := between.FindString(rest[1:])
			word.Kind, word.Text, size = api.Chars, strings.ReplaceAll(body, "''", "'"), len(body)+2
			if size > len(rest) || !utf8.ValidString(body) || strings.IndexFunc(body, func(c rune) bool { return c < 32 }) >= 0 {
				err = api.ErrSyntax
			}
		} else {
			word, size = signPlainly(rest)
			word.At = at
			if size == 0 {
				err = api.ErrSyntax
			}
		}
		if err == api.OK && len(words) == 200 {
			err = api.ErrFull
		}
		if err != api.OK {
			return nil, at, err
		}
		words, at = append(words, word), at+size
	}
	return words, 0, api.OK
}

// signPlainly is the sign with which a text begins, and its bytes, or none.
func signPlainly(rest string) (api.Token, int) {
	for f, spelt := range functionSigns() {
		if strings.HasPrefix(rest, spelt) {
			return api.Token{Kind: api.Glyph, Fn: f}, len(spelt)
		}
	}
	for kind, spelt := range otherSigns() {
		if strings.HasPrefix(rest, spelt) {
			return api.Token{Kind: kind}, len(spelt)
		}
	}
	return api.Token{}, 0
}

// pieces are texts of which lines are made: words, parts of words, and wrong ones.
func pieces() []string {
	all := []string{
		" ", "  ", "⍝", "'", "''", "'a'", "'it''s'", "¯", "0", "12", "9223372036854775807", "9223372036854775808",
		"a", "x_1", "_", "twelve_bytes", "Z", "\t", "\xff", "\xe2", "\x8d", "\x9d", "é", "\u00a0", "1", "b'", "'\n'",
	}
	for _, f := range []api.Fn{api.Add, api.Slash, api.Slope, api.Iota, api.Pow, api.Res} {
		all = append(all, functionSigns()[f])
	}
	for _, kind := range []int{api.Left, api.Arrow, api.Turned, api.Diamond, api.Del} {
		all = append(all, otherSigns()[kind])
	}
	return all
}

// wantPlainly holds what Read tells of a line against what the chapter's words do.
func wantPlainly(t *testing.T, src string) {
	t.Helper()
	words, at, err := readPlainly(src)
	if err != api.OK {
		wantWrong(t, src, at, err)
		return
	}
	wantWords(t, src, words...)
}

// LX1, LX2: all lines of up to three pieces, and long lines of many, against the
// chapter's words.
func TestReadPlainly(t *testing.T) {
	all := pieces()
	for _, a := range all {
		for _, b := range all {
			wantPlainly(t, a+b)
			for _, c := range all {
				wantPlainly(t, a+b+c)
			}
		}
	}
	step := 1
	for range 2000 {
		var line strings.Builder
		for range 1 + step%250 {
			step = (step*16807 + 12345) % 2147483647
			line.WriteString(all[step%len(all)])
		}
		wantPlainly(t, line.String())
	}
}

// LX3: all words, with one blank between each two.
func TestSpell(t *testing.T) {
	wantLine(t, "")
	wantLine(t, "¯5 ⍴ 'it''s'", number(0, -5), glyph(0, api.Rho), chars(0, "it's"))
	wantLine(t, "ab_1 ← ( 'a' )", name(0, "ab_1"), sign(0, api.Arrow), sign(0, api.Left), chars(0, "a"), sign(0, api.Right))
	wantLine(t, "'' '''' '''a''' ' '", chars(0, ""), chars(0, "'"), chars(0, "'a'"), chars(0, " "))
	wantLine(t, "'ω⍝\u0080\ufffd\x7f'", chars(0, "ω⍝\u0080\ufffd\x7f"))
	wantLine(t, "a twelve_bytes Z9_", name(0, "a"), name(0, "twelve_bytes"), name(0, "Z9_"))
	for f, spelt := range functionSigns() {
		wantLine(t, spelt, glyph(0, f))
		wantLine(t, spelt+" "+spelt+" 1", glyph(0, f), glyph(0, f), number(0, 1))
	}
	for kind, spelt := range otherSigns() {
		wantLine(t, spelt, sign(0, kind))
		wantLine(t, "1 "+spelt+" "+spelt, number(0, 1), sign(0, kind), sign(0, kind))
	}
}

// LX3: a Number without needless 0 ahead.
func TestSpellNumbers(t *testing.T) {
	wantLine(t, "0 7 ¯7 100 ¯10", number(0, 0), number(0, 7), number(0, -7), number(0, 100), number(0, -10))
	wantLine(t, "9223372036854775807 ¯9223372036854775808", number(0, math.MaxInt), number(0, math.MinInt))
}

// LX3: At is nothing that Spell looks at.
func TestSpellAside(t *testing.T) {
	for _, at := range []int{math.MinInt, -1, 1, 7, math.MaxInt} {
		wantLine(t, "1 'a' b + (", number(at, 1), chars(at, "a"), name(at, "b"), glyph(at, api.Add), sign(at, api.Left))
		wantNoLine(t, api.ErrSyntax, sign(at, 0))
	}
}

// LX3: more than MaxWords words, whatever else is wrong.
func TestSpellManyWords(t *testing.T) {
	wantLine(t, strings.Repeat("+ ", api.MaxWords-1)+"+", times(api.MaxWords, glyph(0, api.Add))...)
	wantNoLine(t, api.ErrFull, times(api.MaxWords+1, glyph(0, api.Add))...)
	wantNoLine(t, api.ErrFull, times(api.MaxWords+1, sign(0, 0))...)
	wantNoLine(t, api.ErrSyntax, times(api.MaxWords, sign(0, 0))...)
}

// LX3: kinds and functions that there are not.
func TestSpellNoWord(t *testing.T) {
	for _, kind := range []int{math.MinInt, -api.Number, -1, 0, api.Del + 1, 21, 100, math.MaxInt} {
		wantNoLine(t, api.ErrSyntax, sign(0, kind))
		wantNoLine(t, api.ErrSyntax, number(0, 1), sign(0, kind))
	}
	for _, f := range []api.Fn{math.MinInt, -1, 0, api.Slope + 1, 100, math.MaxInt} {
		wantNoLine(t, api.ErrSyntax, glyph(0, f))
		wantNoLine(t, api.ErrSyntax, glyph(0, api.Add), glyph(0, f))
	}
}

// LX3: each field but Kind and At that Read does not tell of a kind.
func TestSpellFields(t *testing.T) {
	for kind := api.Number; kind <= api.Del; kind++ {
		right := api.Token{Kind: kind}
		if kind == api.Name {
			right.Text = "a"
		}
		if kind == api.Glyph {
			right.Fn = api.Add
		}
		if line, err := Spell([]api.Token{right}); line == "" || err != nil {
			t.Errorf("Spell(%v): got %q, %v", right, line, err)
		}
		for _, n := range []int{math.MinInt, -1, 1, math.MaxInt} {
			if word := right; kind != api.Number {
				word.Num = n
				wantNoLine(t, api.ErrSyntax, word)
			}
			if word := right; kind != api.Glyph {
				word.Fn = api.Fn(n)
				wantNoLine(t, api.ErrSyntax, word)
			}
		}
		if word := right; kind != api.Name && kind != api.Chars {
			word.Text = "a"
			wantNoLine(t, api.ErrSyntax, word)
		}
	}
}

// LX3: texts that are no Name, or none of Chars.
func TestSpellTexts(t *testing.T) {
	long := strings.Repeat("x", 5000)
	for _, text := range []string{
		"", "1", "1a", "_", "_a", "a b", " a", "a ", "aé", "é", "a-", "a'", "'a'", "a\x00", "a\xff", "⍝", "a⍝", "+", long + "-",
	} {
		wantNoLine(t, api.ErrSyntax, name(0, text))
	}
	for _, text := range []string{"averylongname", long} {
		wantNoLine(t, api.ErrFull, name(0, text))
		wantNoLine(t, api.ErrFull, name(0, text), sign(0, 0))
		wantNoLine(t, api.ErrSyntax, sign(0, 0), name(0, text))
	}
	for _, text := range []string{
		"\xff", "\x80", "a\xe2\x8d", "\xed\xa0\x80", "\xc0\x80", "\xf4\x90\x80\x80", long + "\xff", "\xff" + long, long + "\n",
	} {
		wantNoLine(t, api.ErrSyntax, chars(0, text))
	}
	for char := range rune(32) {
		wantNoLine(t, api.ErrSyntax, chars(0, string(char)))
		wantNoLine(t, api.ErrSyntax, chars(0, "ab"+string(char)+"c"))
	}
}

// LX3: what would be told is longer than MaxLine bytes, behind all else.
func TestSpellLongLines(t *testing.T) {
	fits := strings.Repeat("a", api.MaxLine-2)
	wantLine(t, "'"+fits+"'", chars(0, fits))
	wantNoLine(t, api.ErrFull, chars(0, fits+"a"))
	wantNoLine(t, api.ErrFull, chars(0, fits), number(0, 1))
	wantNoLine(t, api.ErrFull, number(0, 1), chars(0, fits))
	wantLine(t, "1 '"+fits[2:]+"'", number(0, 1), chars(0, fits[2:]))
	wantLine(t, "'"+fits[2:]+"' 1", chars(0, fits[2:]), number(0, 1))
	wantNoLine(t, api.ErrFull, number(0, 1), chars(0, fits[1:]))
	// Each quote is two bytes, as is each ¯.
	quotes := strings.Repeat("'", api.MaxLine/2-1)
	wantLine(t, "'"+quotes+quotes+"'", chars(0, quotes))
	wantNoLine(t, api.ErrFull, chars(0, quotes+"'"))
	wantLine(t, "¯1 '"+fits[4:]+"'", number(0, -1), chars(0, fits[4:]))
	wantNoLine(t, api.ErrFull, number(0, -1), chars(0, fits[3:]))
	wantNoLine(t, api.ErrFull, chars(0, strings.Repeat("'", 1<<26)))
	wantNoLine(t, api.ErrFull, times(api.MaxWords, chars(0, strings.Repeat("'", 1<<20)))...)
	wantNoLine(t, api.ErrSyntax, chars(0, fits+"a"), sign(0, 0))
	wantNoLine(t, api.ErrFull, chars(0, fits+"a"), name(0, "averylongname"))
	wantLine(t, strings.TrimSpace(strings.Repeat("abcd ", api.MaxWords)), times(api.MaxWords, name(0, "abcd"))...)
	wantNoLine(t, api.ErrFull, times(api.MaxWords, name(0, "abcde"))...)
}

// LX3: each word's errors ahead of the next one's, and ErrSyntax ahead of ErrFull.
func TestSpellFirstWrong(t *testing.T) {
	full := name(0, "averylongname")
	syntax := name(0, "1verylongname")
	wantNoLine(t, api.ErrFull, full, syntax)
	wantNoLine(t, api.ErrSyntax, syntax, full)
	wantNoLine(t, api.ErrFull, number(0, 1), full, sign(0, 0))
	wantNoLine(t, api.ErrSyntax, api.Token{Kind: api.Name, Text: "averylongname", Num: 1})
	wantNoLine(t, api.ErrSyntax, api.Token{Kind: api.Name, Text: "averylongname", Fn: 1})
}

// LX3: a word is one that can be spelled alone.
func TestIsWord(t *testing.T) {
	longest := strings.Repeat("x", api.MaxLine-2)
	right := []api.Token{number(7, math.MinInt), chars(0, ""), chars(1, longest), name(2, "twelve_bytes"), glyph(3, api.Slope), sign(4, api.Del)}
	for _, word := range right {
		if !IsWord(word) {
			t.Errorf("IsWord(%v): got false", word)
		}
	}
	wrong := []api.Token{{}, sign(0, api.Del+1), {Kind: api.Number, Text: "1"}, chars(0, "\xff"), chars(0, longest+"x"), name(0, ""), name(0, "1a"), name(0, "averylongname"), glyph(0, api.Slope+1)}
	for _, word := range wrong {
		if IsWord(word) {
			t.Errorf("IsWord(%v): got true", word)
		}
	}
}

// LX2, LX3: what is spelled is read, and what is read can be spelled.
func TestSpellIsRead(t *testing.T) {
	var words []api.Token
	for f := api.Add; f <= api.Slope; f++ {
		words = append(words, glyph(0, f))
	}
	for kind := api.Left; kind <= api.Del; kind++ {
		words = append(words, sign(0, kind))
	}
	for _, text := range []string{"", "'", "a", "''", "⍝ω", "a b", "1", " "} {
		words = append(words, chars(0, text), chars(0, text))
	}
	for _, n := range []int{0, 1, -1, 10, math.MaxInt, math.MinInt} {
		words = append(words, number(0, n), name(0, "x"), number(0, n))
	}
	for _, first := range words {
		for _, second := range words {
			wantReadBack(t, first, second)
		}
	}
	wantReadBack(t, words...)
	for _, a := range pieces() {
		for _, b := range pieces() {
			if read, _, err := Read(a + " " + b); err == nil {
				wantReadBack(t, read...)
			}
		}
	}
}

// wantReadBack holds what Read tells of what Spell tells of words against them,
// At aside.
func wantReadBack(t *testing.T, words ...api.Token) {
	t.Helper()
	line, err := Spell(words)
	back, at, readErr := Read(line)
	if err != nil || at != 0 || readErr != nil || len(back) != len(words) {
		t.Errorf("Spell(%v): got %q, %v, and of it %v, %d, %v", words, line, err, back, at, readErr)
		return
	}
	ends := 0
	for i, word := range back {
		if word.At != ends {
			t.Errorf("Read(%q): got %d as At of word %d, want %d", line, word.At, i, ends)
		}
		one, _ := Spell(words[i : i+1])
		ends += len(one) + 1
		want := words[i]
		want.At = word.At
		if word != want {
			t.Errorf("Read(%q): got %v as word %d, want %v", line, word, i, want)
		}
	}
}

// LX1, LX2: words that are known by their numbers, against texts of strconv.
func TestReadManyNumbers(t *testing.T) {
	for n := 1; n > 0; n = n*3 + 1 {
		for _, m := range []int{n, -n, n - 2, 2 - n} {
			wantWords(t, "a "+strings.Replace(strconv.Itoa(m), "-", "¯", 1)+")", name(0, "a"), number(2, m),
				sign(2+len(strings.Replace(strconv.Itoa(m), "-", "¯", 1)), api.Right))
		}
	}
}

// P2, P4: no list that is handed in is written into, nor what lies behind its
// length; what comes out is fresh.
func TestFresh(t *testing.T) {
	backing := []api.Token{number(5, 1), chars(6, "a"), name(7, "averylongname"), sign(8, -1)}
	kept := slices.Clone(backing)
	wantLine(t, "1 'a'", backing[:2]...)
	if !slices.Equal(backing, kept) {
		t.Errorf("Spell wrote: got %v, want %v", backing, kept)
	}
	first, _, _ := Read("1 a 'b' +")
	second, _, _ := Read("1 a 'b' +")
	for i := range first {
		first[i] = sign(9, 9)
	}
	if !slices.Equal(second, []api.Token{number(0, 1), name(2, "a"), chars(4, "b"), glyph(8, api.Add)}) {
		t.Errorf("Read shares: got %v", second)
	}
}
