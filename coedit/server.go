package coedit

import "coedit/text"

// server is the one by which all changes go: a goroutine with a text of its own.
type server struct {
	worker
	elems   []text.Elem
	log     []text.Edit
	cursors map[int]int
}
