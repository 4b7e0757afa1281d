package tree

import (
	"ravelin/api"
)

// reader reads parts from right words. Where no line begins with the words up to
// the next one, it is wrong, and reads no more: at is the place of that word, or
// of the one that is missing. What it tells is of no use then.
type reader struct {
	words []api.Token
	at    int
	depth int // how many Begins are without their End
	wrong bool
}

// line reads a line.
func (r *reader) line() part {
	if len(r.words) > 1 && r.words[0].Kind == api.Name && r.words[1].Kind == api.Arrow {
		text := r.next(api.Name).Text
		r.next(api.Arrow)
		return set{text, r.expression()}
	}
	return r.expression()
}

// expression reads an expression.
func (r *reader) expression() part {
	if r.isFunction() {
		acting := r.function()
		return one{acting, r.expression()}
	}
	left := r.term()
	if !r.isFunction() {
		return left
	}
	acting := r.function()
	return two{acting, left, r.expression()}
}

// term reads a term.
func (r *reader) term() part {
	term := r.atom()
	for r.has(sign(api.Open)) {
		indices := []part{r.expression()}
		for r.has(sign(api.Semi)) {
			indices = append(indices, r.expression())
		}
		r.next(api.Close)
		term = pick{term, indices}
	}
	return term
}

// atom reads an atom.
func (r *reader) atom() part {
	switch r.kind() {
	case api.Number:
		return r.numbers()
	case api.Chars:
		return text(r.next(api.Chars).Text)
	case api.Name:
		return variable(r.next(api.Name).Text)
	case api.Alpha:
		r.next(api.Alpha)
		return alpha{}
	case api.Omega:
		r.next(api.Omega)
		return omega{}
	case api.Left:
		r.next(api.Left)
		inner := r.expression()
		r.next(api.Right)
		return inner
	}
	r.wrong = true
	return nil
}

// numbers reads as many Numbers as stand there.
func (r *reader) numbers() numbers {
	var list numbers
	for r.kind() == api.Number {
		list = append(list, r.next(api.Number).Num)
	}
	return list
}

// isFunction tells if the next word is one with which a function begins.
func (r *reader) isFunction() bool {
	switch r.kind() {
	case api.Glyph, api.Jot, api.Del, api.Begin:
		return true
	}
	return false
}

// function reads a function.
func (r *reader) function() function {
	switch r.kind() {
	case api.Glyph:
		return function{act: r.glyphs()}
	case api.Jot:
		r.next(api.Jot)
		r.next(api.Dot)
		return function{act: api.Act{Op: api.Outer, F: r.next(api.Glyph).Fn}}
	case api.Del:
		r.next(api.Del)
		return function{act: api.Act{Op: api.Self}}
	}
	return function{act: api.Act{Op: api.Dfn}, body: r.body()}
}

// glyphs reads a Glyph and what belongs to it.
func (r *reader) glyphs() api.Act {
	first := r.next(api.Glyph).Fn
	switch {
	case r.has(glyph(api.Slash)):
		return api.Act{Op: api.Over, F: first}
	case r.has(glyph(api.Slope)):
		return api.Act{Op: api.Along, F: first}
	case r.has(sign(api.Turned)):
		return api.Act{Op: api.Swap, F: first}
	case r.has(sign(api.Dot)):
		return api.Act{Op: api.Inner, F: first, G: r.next(api.Glyph).Fn}
	}
	return api.Act{Op: api.Plain, F: first}
}

// body reads what stands from Begin to End.
func (r *reader) body() []part {
	r.next(api.Begin)
	r.depth++
	body := []part{r.expression()}
	for r.has(sign(api.Colon)) {
		body = append(body, r.expression())
		r.next(api.Diamond)
		body = append(body, r.expression())
	}
	r.next(api.End)
	r.depth--
	return body
}

// kind is the kind of the next word, or 0, which is none: there is no next word,
// or it may stand nowhere here.
func (r *reader) kind() int {
	if r.wrong || r.at == len(r.words) {
		return 0
	}
	kind := r.words[r.at].Kind
	switch kind {
	case api.Alpha, api.Omega, api.Del:
		if r.depth == 0 {
			return 0
		}
	}
	return kind
}

// next reads a word that must be of a kind.
func (r *reader) next(kind int) api.Token {
	if r.kind() != kind {
		r.wrong = true
		return api.Token{}
	}
	r.at++
	return r.words[r.at-1]
}

// has reads the next word, if it is the one that is asked for, and tells if it is.
func (r *reader) has(word api.Token) bool {
	if r.kind() != word.Kind || r.words[r.at].Fn != word.Fn {
		return false
	}
	r.at++
	return true
}
