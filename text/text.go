// Package text: elements, rows of them, and the changes that make one row of another.
package text

import "slices"

// The kinds of changes, as they are told and as they stand in frames.
const (
	KindInsert = iota + 1
	KindDelete
	KindNothing
)

// Elem is a rune with its id: who typed it, as which of the typist's inserts.
type Elem struct {
	R              rune
	Client, Number int
}

// Change is a change as it is told: Kind 1 inserts E at At, 2 deletes what stands at At, 3 does nothing.
type Change struct {
	Kind, At int
	E        Elem
	Client   int
}

// Edit is a change as it is worked with: an Insert, a Delete or a Nothing.
type Edit interface {
	// Apply makes another row and leaves the given one as it is: whoever holds the old row may go on reading it.
	// A change that does not fit the row makes none: it is for the caller to refuse it.
	Apply(row []Elem) []Elem
	// Fits tells whether the change's index is one of a text of that length.
	Fits(length int) bool
	// Past turns the change past another change of the same text: it gives what this one becomes for the text that the other has made.
	Past(b Edit) Edit
	Told() Change
}

// Insert puts E at the index At; it is of the client that typed E.
type Insert struct {
	At int
	E  Elem
}

// Delete takes away what stands at the index At; it is of the client By.
type Delete struct {
	At, By int
}

// Nothing leaves a text as it is; it is of the client By.
type Nothing struct {
	By int
}

func (x Insert) Apply(row []Elem) []Elem {
	if !x.Fits(len(row)) {
		return row
	}
	return slices.Concat(row[:x.At], []Elem{x.E}, row[x.At:])
}

func (x Delete) Apply(row []Elem) []Elem {
	if !x.Fits(len(row)) {
		return row
	}
	return slices.Concat(row[:x.At], row[x.At+1:])
}

func (x Nothing) Apply(row []Elem) []Elem { return row }

// Fits: a text's end is a place to insert at.
func (x Insert) Fits(length int) bool { return x.At >= 0 && x.At <= length }

func (x Delete) Fits(length int) bool { return x.At >= 0 && x.At < length }

func (x Nothing) Fits(int) bool { return true }

// Past: where two insert at one index, the clients' numbers say whose element comes first, so that both sides say the same.
func (x Insert) Past(b Edit) Edit {
	switch b := b.(type) {
	case Insert:
		if b.At < x.At || b.At == x.At && b.E.Client <= x.E.Client {
			x.At++
		}
	case Delete:
		if b.At < x.At {
			x.At--
		}
	}
	return x
}

// Past: what two delete is deleted once: the other change has done it.
func (x Delete) Past(b Edit) Edit {
	switch b := b.(type) {
	case Insert:
		if b.At <= x.At {
			x.At++
		}
	case Delete:
		if b.At == x.At {
			return Nothing{By: x.By}
		}
		if b.At < x.At {
			x.At--
		}
	}
	return x
}

func (x Nothing) Past(Edit) Edit { return x }

func (x Insert) Told() Change {
	return Change{Kind: KindInsert, At: x.At, E: x.E, Client: x.E.Client}
}

func (x Delete) Told() Change {
	return Change{Kind: KindDelete, At: x.At, Client: x.By}
}

func (x Nothing) Told() Change {
	return Change{Kind: KindNothing, Client: x.By}
}

// Of gives a told change as it is worked with; of a kind that is none it is nothing.
func Of(c Change) Edit {
	switch c.Kind {
	case KindInsert:
		return Insert{At: c.At, E: c.E}
	case KindDelete:
		return Delete{At: c.At, By: c.Client}
	}
	return Nothing{By: c.Client}
}

// TurnIndex turns an index past a change of the text that it is an index of.
func TurnIndex(k int, past Edit) int {
	switch b := past.(type) {
	case Insert:
		if b.At <= k {
			return k + 1
		}
	case Delete:
		if b.At < k {
			return k - 1
		}
	}
	return k
}
