package tree

import (
	"slices"

	"ravelin/api"
	"ravelin/lex"
)

// built is the line of which a list is the tree.
func built(t []api.Node) (part, error) {
	if len(t) > api.MaxNodes {
		return nil, api.ErrFull
	}
	b := builder{nodes: t}
	line := b.line()
	// What the builder passed over, fields that say nothing and nodes behind the
	// tree, is in the list alone.
	if b.wrong || !slices.EqualFunc(line.whole().nodes(), t, isSame) {
		return nil, api.ErrSyntax
	}
	return line, nil
}

// builder builds parts of nodes. Where there is none that words may say, it is
// wrong, and what it tells is of no use.
type builder struct {
	nodes []api.Node // those that it has not come to
	depth int        // how many functions that are written out are about them
	wrong bool
}

// line builds a line.
func (b *builder) line() part {
	if len(b.nodes) > 0 && b.nodes[0].Op == api.IsSet {
		text := b.next().Text
		b.need(lex.IsWord(name(text)))
		return set{text, b.expression()}
	}
	return b.expression()
}

// expression builds an expression.
func (b *builder) expression() part {
	own := b.next()
	switch own.Op {
	case api.IsNums:
		b.need(len(own.Nums) > 0)
		return numbers(own.Nums)
	case api.IsText:
		b.need(lex.IsWord(chars(own.Text)))
		return text(own.Text)
	case api.IsVar:
		b.need(lex.IsWord(name(own.Text)))
		return variable(own.Text)
	case api.IsAlpha:
		b.need(b.depth > 0)
		return alpha{}
	case api.IsOmega:
		b.need(b.depth > 0)
		return omega{}
	case api.IsOne:
		acting := b.function(own)
		return one{acting, b.expression()}
	case api.IsTwo:
		left := b.expression()
		acting := b.function(own)
		return two{acting, left, b.expression()}
	case api.IsPick:
		term := b.expression()
		return pick{term, b.indices(own.N)}
	}
	b.wrong = true
	return nil
}

// indices builds so many indices.
func (b *builder) indices(n int) []part {
	b.need(n > 0)
	var indices []part
	for len(indices) < n && !b.wrong {
		indices = append(indices, b.expression())
	}
	return indices
}

// function builds what acts in a part that has this node.
func (b *builder) function(own api.Node) function {
	acting := function{act: own.Act}
	switch own.Act.Op {
	case api.Inner:
	case api.Dfn:
		acting.act = api.Act{Op: api.Dfn}
		acting.body = b.body(own.N)
	case api.Self:
		acting.act = api.Act{Op: api.Self}
		b.need(b.depth > 0)
	default:
		acting.act.G = 0
	}
	signs := acting.signs()
	b.need(len(signs) > 0 && areWords(signs))
	return acting
}

// body builds what a function with so many conditions is written out with.
func (b *builder) body(conditions int) []part {
	b.depth++
	var body []part
	for i := 0; i < conditions && !b.wrong; i++ {
		condition := b.expression()
		body = append(body, condition, b.expression())
	}
	body = append(body, b.expression())
	b.depth--
	return body
}

// next is the next node, one of no kind if there is none.
func (b *builder) next() api.Node {
	if len(b.nodes) == 0 {
		return api.Node{}
	}
	own := b.nodes[0]
	b.nodes = b.nodes[1:]
	return own
}

// need tells the builder what must be so.
func (b *builder) need(is bool) {
	b.wrong = b.wrong || !is
}

// isSame tells if two nodes are the same.
func isSame(a, b api.Node) bool {
	return a.Op == b.Op && a.Act == b.Act && a.N == b.N && a.Text == b.Text && slices.Equal(a.Nums, b.Nums)
}

// areWords tells if all words are right.
func areWords(words []api.Token) bool {
	for _, word := range words {
		if !lex.IsWord(word) {
			return false
		}
	}
	return true
}
