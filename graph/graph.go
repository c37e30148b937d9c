// Package graph tells what hangs on what: see doc/06-graph.md.
package graph

import "sheet/api"

// Graph knows of which cells each cell speaks. Make it by New.
type Graph struct{}

// New makes a graph (H1).
func New() *Graph { return &Graph{} }

// Set lets a cell speak of areas (H1).
func (g *Graph) Set(cell int, areas []api.Area) bool { return false }

// Hanging tells what hangs on a cell (H2).
func (g *Graph) Hanging(cell int) []int { return nil }

// Rings tells which cells come to a ring (H3).
func (g *Graph) Rings() []int { return nil }

// Order tells in which order cells can be worked out (H4).
func (g *Graph) Order(cells []int) []int { return nil }
