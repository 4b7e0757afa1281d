package tree

import (
	"slices"

	"ravelin/api"
)

// Part is a part of a tree, or all of it: its node, and the parts that it has, in
// the order in which they are written.
type Part struct {
	api.Node
	Given []Part // those with which something is done: all but Body
	Body  []Part // of Dfn each condition and the value behind it, and the last expression
}

// nodes are those of a part: its own one, and behind it those of its parts.
func (p Part) nodes() []api.Node {
	nodes := []api.Node{p.Node}
	for _, q := range p.written() {
		nodes = append(nodes, q.nodes()...)
	}
	return nodes
}

// written are all parts that a part has: a function is written ahead of its last
// one.
func (p Part) written() []Part {
	if len(p.Body) == 0 {
		return p.Given
	}
	last := len(p.Given) - 1
	return slices.Concat(p.Given[:last], p.Body, p.Given[last:])
}

// part is what a Part says.
type part interface {
	whole() Part
}

// The parts that there are.
type (
	numbers  []int
	text     string
	variable string
	alpha    struct{}
	omega    struct{}
	one      struct {
		function
		right part
	}
	two struct {
		function
		left, right part
	}
	pick struct {
		term    part
		indices []part
	}
	set struct {
		name  string
		right part
	}
)

// function is what acts in a part. Of Dfn it has a body.
type function struct {
	act  api.Act
	body []part
}

func (p numbers) whole() Part {
	return Part{Node: api.Node{Op: api.IsNums, Nums: p}}
}

func (p text) whole() Part {
	return Part{Node: api.Node{Op: api.IsText, Text: string(p)}}
}

func (p variable) whole() Part {
	return Part{Node: api.Node{Op: api.IsVar, Text: string(p)}}
}

func (alpha) whole() Part {
	return Part{Node: api.Node{Op: api.IsAlpha}}
}

func (omega) whole() Part {
	return Part{Node: api.Node{Op: api.IsOmega}}
}

func (p one) whole() Part {
	return p.acting(api.IsOne, p.right)
}

func (p two) whole() Part {
	return p.acting(api.IsTwo, p.left, p.right)
}

func (p pick) whole() Part {
	own := api.Node{Op: api.IsPick, N: len(p.indices)}
	return Part{Node: own, Given: slices.Concat(wholes(p.term), wholes(p.indices...))}
}

func (p set) whole() Part {
	return Part{Node: api.Node{Op: api.IsSet, Text: p.name}, Given: wholes(p.right)}
}

// acting is a part in which the function acts on others.
func (f function) acting(op int, given ...part) Part {
	own := api.Node{Op: op, Act: f.act, N: len(f.body) / 2}
	return Part{Node: own, Given: wholes(given...), Body: wholes(f.body...)}
}

// wholes are the Parts that say what these do.
func wholes(parts ...part) []Part {
	var all []Part
	for _, p := range parts {
		all = append(all, p.whole())
	}
	return all
}

// signs are the words of the function; of Dfn the one ahead of its body; none of
// an act that there is not.
func (f function) signs() []api.Token {
	first, second := glyph(f.act.F), glyph(f.act.G)
	switch f.act.Op {
	case api.Plain:
		return []api.Token{first}
	case api.Over:
		return []api.Token{first, glyph(api.Slash)}
	case api.Along:
		return []api.Token{first, glyph(api.Slope)}
	case api.Swap:
		return []api.Token{first, sign(api.Turned)}
	case api.Outer:
		return []api.Token{sign(api.Jot), sign(api.Dot), first}
	case api.Inner:
		return []api.Token{first, sign(api.Dot), second}
	case api.Self:
		return []api.Token{sign(api.Del)}
	case api.Dfn:
		return []api.Token{sign(api.Begin)}
	}
	return nil
}

// takes tells if the first word of its right part would belong to the function, if
// nothing stood between them.
func (f function) takes(right part) bool {
	p, is := right.(one)
	return is && f.act.Op == api.Plain && p.isSlashed()
}

// isSlashed tells if the function's first word is one that can belong to a Glyph.
func (f function) isSlashed() bool {
	first := f.signs()[0]
	return first == glyph(api.Slash) || first == glyph(api.Slope)
}

// acts tells if a part is one in which a function acts.
func acts(p part) bool {
	switch p.(type) {
	case one, two:
		return true
	}
	return false
}

func number(n int) api.Token { return api.Token{Kind: api.Number, Num: n} }

func chars(text string) api.Token { return api.Token{Kind: api.Chars, Text: text} }

func name(text string) api.Token { return api.Token{Kind: api.Name, Text: text} }

func glyph(f api.Fn) api.Token { return api.Token{Kind: api.Glyph, Fn: f} }

func sign(kind int) api.Token { return api.Token{Kind: kind} }
