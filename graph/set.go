package graph

import (
	"cmp"
	"maps"
	"slices"
)

// set is a set of keys, which can be told in their order.
type set[K cmp.Ordered] map[K]struct{}

func (s set[K]) add(key K) { s[key] = struct{}{} }

func (s set[K]) drop(key K) { delete(s, key) }

func (s set[K]) has(key K) bool {
	_, ok := s[key]
	return ok
}

// rising tells all keys, the least one first.
func (s set[K]) rising() []K { return slices.Sorted(maps.Keys(s)) }

// relation tells which keys of two kinds belong together, and can be asked from either side.
type relation[A, B cmp.Ordered] struct {
	of map[A]set[B]
	by map[B]set[A]
}

func newRelation[A, B cmp.Ordered]() relation[A, B] {
	return relation[A, B]{of: make(map[A]set[B]), by: make(map[B]set[A])}
}

// become lets a belong together with just these. It keeps the set.
func (r relation[A, B]) become(a A, these set[B]) {
	r.part(a)
	if len(these) == 0 {
		return
	}
	r.of[a] = these
	for b := range these {
		if r.by[b] == nil {
			r.by[b] = make(set[A])
		}
		r.by[b].add(a)
	}
}

// part lets a belong together with none. Sets that are empty are not kept.
func (r relation[A, B]) part(a A) {
	for b := range r.of[a] {
		r.by[b].drop(a)
		if len(r.by[b]) == 0 {
			delete(r.by, b)
		}
	}
	delete(r.of, a)
}
