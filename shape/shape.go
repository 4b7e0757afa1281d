// Package shape has how many axes, and how long.
package shape

import (
	"iter"

	"ravelin/api"
)

// Count tells how many cells there are.
func Count(s []int) (int, error) {
	if len(s) > api.MaxRank {
		return 0, api.ErrRank
	}
	for _, length := range s {
		if length < 0 {
			return 0, api.ErrLength
		}
		if length > api.MaxCells {
			return 0, api.ErrFull
		}
	}
	count := product(s)
	if count > api.MaxCells {
		return 0, api.ErrFull
	}
	return count, nil
}

// Place tells the place of a cell.
func Place(s []int, at []int) (int, error) {
	if _, err := Count(s); err != nil {
		return 0, err
	}
	if len(at) != len(s) {
		return 0, api.ErrRank
	}
	place, step := 0, 1
	for k, length := range fromLast(s) {
		if at[k] < 0 || at[k] >= length {
			return 0, api.ErrIndex
		}
		place += at[k] * step
		step *= length
	}
	return place, nil
}

// At tells the indices of a place.
func At(s []int, place int) ([]int, error) {
	count, err := Count(s)
	if err != nil {
		return nil, err
	}
	if place < 0 || place >= count {
		return nil, api.ErrIndex
	}
	// No length is 0 from here on: there is a cell at the place.
	at := make([]int, len(s))
	for k, length := range fromLast(s) {
		at[k] = place % length
		place /= length
	}
	return at, nil
}

// Axes tells a shape with its axes in another order.
func Axes(s []int, p []int) ([]int, error) {
	if _, err := Count(s); err != nil {
		return nil, err
	}
	if len(p) != len(s) {
		return nil, api.ErrLength
	}
	if !IsOrder(p) {
		return nil, api.ErrIndex
	}
	out := make([]int, len(s))
	for k, length := range fromLast(s) {
		out[p[k]] = length
	}
	return out, nil
}

// IsOrder tells if p is each of the numbers from 0 to below its length once.
func IsOrder(p []int) bool {
	seen := make([]bool, len(p))
	for _, k := range p {
		if k < 0 || k >= len(p) || seen[k] {
			return false
		}
		seen[k] = true
	}
	return true
}

// fromLast goes over the axes with their lengths, from the last one on, as
// places are counted: the last axis goes fastest.
func fromLast(s []int) iter.Seq2[int, int] {
	return func(yield func(int, int) bool) {
		for k := len(s) - 1; k >= 0; k-- {
			if !yield(k, s[k]) {
				return
			}
		}
	}
}

// product multiplies lengths from 0 to MaxCells. It holds at MaxCells + 1 what
// is above MaxCells: six such lengths could wrap round, and a 0 that is still
// to come makes it 0 all the same.
func product(s []int) int {
	count := 1
	for _, length := range fromLast(s) {
		count = min(count*length, api.MaxCells+1)
	}
	return count
}
