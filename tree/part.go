package tree

import (
	"slices"

	"ravelin/api"
)

// part is a part of a tree, or all of it. Its nodes are its own one, and behind it
// those of the parts that it has.
type part interface {
	nodes() []api.Node
}

// The parts that there are.
type (
	numbers  []int
	text     string
	variable string
	alpha    struct{}
	omega    struct{}
	one      struct {
		function
		right part
	}
	two struct {
		function
		left, right part
	}
	pick struct {
		term    part
		indices []part
	}
	set struct {
		name  string
		right part
	}
)

// function is what acts in a part. Of Dfn it has a body: each condition and the
// value behind it, and the last expression.
type function struct {
	act  api.Act
	body []part
}

func (p numbers) nodes() []api.Node {
	return list(api.Node{Op: api.IsNums, Nums: p})
}

func (p text) nodes() []api.Node {
	return list(api.Node{Op: api.IsText, Text: string(p)})
}

func (p variable) nodes() []api.Node {
	return list(api.Node{Op: api.IsVar, Text: string(p)})
}

func (alpha) nodes() []api.Node {
	return list(api.Node{Op: api.IsAlpha})
}

func (omega) nodes() []api.Node {
	return list(api.Node{Op: api.IsOmega})
}

func (p one) nodes() []api.Node {
	return list(p.acting(api.IsOne), slices.Concat(p.body, []part{p.right})...)
}

func (p two) nodes() []api.Node {
	return list(p.acting(api.IsTwo), slices.Concat([]part{p.left}, p.body, []part{p.right})...)
}

func (p pick) nodes() []api.Node {
	own := api.Node{Op: api.IsPick, N: len(p.indices)}
	return list(own, slices.Concat([]part{p.term}, p.indices)...)
}

func (p set) nodes() []api.Node {
	return list(api.Node{Op: api.IsSet, Text: p.name}, p.right)
}

// list is a node with those of its parts behind it.
func list(own api.Node, parts ...part) []api.Node {
	nodes := []api.Node{own}
	for _, p := range parts {
		nodes = append(nodes, p.nodes()...)
	}
	return nodes
}

// acting is the node of a part in which the function acts.
func (f function) acting(op int) api.Node {
	return api.Node{Op: op, Act: f.act, N: len(f.body) / 2}
}

// signs are the words of the function; of Dfn the one ahead of its body; none of
// an act that there is not.
func (f function) signs() []api.Token {
	first, second := glyph(f.act.F), glyph(f.act.G)
	switch f.act.Op {
	case api.Plain:
		return []api.Token{first}
	case api.Over:
		return []api.Token{first, glyph(api.Slash)}
	case api.Along:
		return []api.Token{first, glyph(api.Slope)}
	case api.Swap:
		return []api.Token{first, sign(api.Turned)}
	case api.Outer:
		return []api.Token{sign(api.Jot), sign(api.Dot), first}
	case api.Inner:
		return []api.Token{first, sign(api.Dot), second}
	case api.Self:
		return []api.Token{sign(api.Del)}
	case api.Dfn:
		return []api.Token{sign(api.Begin)}
	}
	return nil
}

// takes tells if the first word of its right part would belong to the function, if
// nothing stood between them.
func (f function) takes(right part) bool {
	p, is := right.(one)
	return is && f.act.Op == api.Plain && p.isSlashed()
}

// isSlashed tells if the function's first word is one that can belong to a Glyph.
func (f function) isSlashed() bool {
	first := f.signs()[0]
	return first == glyph(api.Slash) || first == glyph(api.Slope)
}

// acts tells if a part is one in which a function acts.
func acts(p part) bool {
	switch p.(type) {
	case one, two:
		return true
	}
	return false
}

func number(n int) api.Token { return api.Token{Kind: api.Number, Num: n} }

func chars(text string) api.Token { return api.Token{Kind: api.Chars, Text: text} }

func name(text string) api.Token { return api.Token{Kind: api.Name, Text: text} }

func glyph(f api.Fn) api.Token { return api.Token{Kind: api.Glyph, Fn: f} }

func sign(kind int) api.Token { return api.Token{Kind: kind} }
