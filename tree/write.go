package tree

import (
	"ravelin/api"
)

// writer writes the words of parts.
type writer struct {
	words []api.Token
}

// part writes a part.
func (w *writer) part(p part) {
	switch p := p.(type) {
	case numbers:
		for _, n := range p {
			w.put(number(n))
		}
	case text:
		w.put(chars(string(p)))
	case variable:
		w.put(name(string(p)))
	case alpha:
		w.put(sign(api.Alpha))
	case omega:
		w.put(sign(api.Omega))
	case one:
		w.function(p.function)
		w.bracketed(p.takes(p.right), p.right)
	case two:
		w.bracketed(acts(p.left), p.left)
		w.function(p.function)
		w.bracketed(p.takes(p.right), p.right)
	case pick:
		w.bracketed(acts(p.term), p.term)
		w.indices(p.indices)
	case set:
		w.put(name(p.name), sign(api.Arrow))
		w.part(p.right)
	}
}

// bracketed writes a part, between Left and Right if it needs them.
func (w *writer) bracketed(needs bool, p part) {
	if !needs {
		w.part(p)
		return
	}
	w.put(sign(api.Left))
	w.part(p)
	w.put(sign(api.Right))
}

// function writes a function.
func (w *writer) function(f function) {
	w.put(f.signs()...)
	for i, p := range f.body {
		w.part(p)
		w.put(behind(i, len(f.body)))
	}
}

// behind is the word behind an expression of a body: the last one ends it, and of
// the others each second one is the value of the condition ahead of it.
func behind(place, length int) api.Token {
	switch {
	case place == length-1:
		return sign(api.End)
	case place%2 == 0:
		return sign(api.Colon)
	}
	return sign(api.Diamond)
}

// indices writes indices.
func (w *writer) indices(indices []part) {
	w.put(sign(api.Open))
	for i, p := range indices {
		if i > 0 {
			w.put(sign(api.Semi))
		}
		w.part(p)
	}
	w.put(sign(api.Close))
}

// put writes words. One more than may be is enough to tell that there are too
// many: all of them might be more than the memory has.
func (w *writer) put(words ...api.Token) {
	for _, word := range words {
		if len(w.words) <= api.MaxWords {
			w.words = append(w.words, word)
		}
	}
}
