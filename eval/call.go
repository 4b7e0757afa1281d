package eval

import (
	"ravelin/api"
	"ravelin/arr"
	"ravelin/pick"
	"ravelin/prim"
	"ravelin/tree"
)

// valueOf is the value of a line's expression, in memory of its own, and how much
// fuel is left.
func valueOf(names map[string]api.Array, line tree.Part, fuel int) (api.Array, int, error) {
	e := evaluation{names: names, fuel: fuel}
	outside := call{evaluation: &e}
	value, err := outside.told(line)
	if err != nil {
		return api.Array{}, 0, err
	}
	return arr.Copy(value), e.fuel, nil
}

// evaluation is what all calls of a line have in common.
type evaluation struct {
	names map[string]api.Array
	fuel  int
	calls int // that go on
}

// call is a call that goes on: of the function that is written out so, with what it
// is given. Outside of all functions, where nothing says Alpha, Omega or Self, it
// has neither.
type call struct {
	*evaluation
	body  []tree.Part
	given []api.Array // the left part's value, if there is one, and the right one's
}

// step takes a step.
func (e *evaluation) step() error {
	if e.fuel <= 0 {
		return api.ErrLimit
	}
	e.fuel--
	return nil
}

// variable is what has a name.
func (e *evaluation) variable(name string) (api.Array, error) {
	value, has := e.names[name]
	if !has {
		return api.Array{}, api.ErrName
	}
	return value, nil
}

// called is the value of a call.
func (e *evaluation) called(body []tree.Part, given []api.Array) (api.Array, error) {
	if e.calls == api.MaxCalls {
		return api.Array{}, api.ErrLimit
	}
	e.calls++
	c := call{evaluation: e, body: body, given: given}
	result, err := c.result()
	if err != nil {
		return api.Array{}, err
	}
	value, err := c.told(result)
	e.calls--
	return value, err
}

// result is the expression whose value is the call's.
func (c call) result() (tree.Part, error) {
	last := len(c.body) - 1
	for i := 0; i < last; i += 2 {
		condition, err := c.told(c.body[i])
		if err != nil {
			return tree.Part{}, err
		}
		holds, err := truth(condition)
		if err != nil {
			return tree.Part{}, err
		}
		if holds {
			return c.body[i+1], nil
		}
	}
	return c.body[last], nil
}

// told is the value of an expression, and then a step.
func (c call) told(p tree.Part) (api.Array, error) {
	value, err := c.value(p)
	if err != nil {
		return api.Array{}, err
	}
	if err := c.step(); err != nil {
		return api.Array{}, err
	}
	return value, nil
}

// value is the value of an expression. It may be the memory of another one.
func (c call) value(p tree.Part) (api.Array, error) {
	given := make([]api.Array, len(p.Given))
	for i := len(given) - 1; i >= 0; i-- {
		value, err := c.value(p.Given[i])
		if err != nil {
			return api.Array{}, err
		}
		given[i] = value
	}
	if err := c.step(); err != nil {
		return api.Array{}, err
	}
	return c.work(p, given)
}

// work is what a node itself tells, where its parts have these values.
func (c call) work(p tree.Part, given []api.Array) (api.Array, error) {
	switch p.Op {
	case api.IsNums:
		return numbers(p.Nums)
	case api.IsText:
		return text(p.Text)
	case api.IsVar:
		return c.variable(p.Text)
	case api.IsAlpha:
		return c.alpha()
	case api.IsOmega:
		return c.given[len(c.given)-1], nil
	case api.IsPick:
		return pick.At(given[0], given[1:])
	}
	return c.act(p, given)
}

// alpha is what the call is given at its left.
func (c call) alpha() (api.Array, error) {
	if len(c.given) < 2 {
		return api.Array{}, api.ErrName
	}
	return c.given[0], nil
}

// act is what the function of an IsOne or IsTwo tells.
func (c call) act(p tree.Part, given []api.Array) (api.Array, error) {
	switch p.Act.Op {
	case api.Dfn:
		return c.called(p.Body, given)
	case api.Self:
		return c.called(c.body, given)
	}
	if len(given) == 1 {
		return prim.One(p.Act, given[0])
	}
	return prim.Two(p.Act, given[0], given[1])
}

// numbers is the value of Numbers. It keeps them.
func numbers(list []int) (api.Array, error) {
	value := api.Array{Shape: []int{len(list)}, Data: list}
	// As many of them as one likes may stand in a tree, but not in an array.
	if err := arr.Check(value); err != nil {
		return api.Array{}, err
	}
	return bare(value), nil
}

// text is the value of Chars.
func text(s string) (api.Array, error) {
	value, err := arr.Text(s)
	if err != nil {
		return api.Array{}, err
	}
	return bare(value), nil
}

// bare is what a list says: just one cell has no axes.
func bare(list api.Array) api.Array {
	if len(list.Data) == 1 {
		list.Shape = nil
	}
	return list
}

// truth tells if a condition holds.
func truth(value api.Array) (bool, error) {
	isNumber := !value.Char && len(value.Shape) == 0
	switch {
	case isNumber && value.Data[0] == 0:
		return false, nil
	case isNumber && value.Data[0] == 1:
		return true, nil
	}
	return false, api.ErrDomain
}
