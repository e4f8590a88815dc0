package coedit

import (
	"unicode/utf8"

	"coedit/frame"
	"coedit/text"
)

// client is one who writes: a goroutine with a text of its own.
type client struct {
	worker
	side
	number  int
	elems   []text.Elem
	cursor  int
	inserts int
}

// draft is a change that a client could make, and where its cursor would be then.
type draft struct {
	edit   text.Edit
	cursor int
}

func (w *client) draftInsert(at int, r rune) (draft, error) {
	if !utf8.ValidRune(r) {
		return draft{}, ErrRune
	}
	e := text.Elem{R: r, Client: w.number, Number: w.inserts + 1}
	return w.draftEdit(text.Insert{At: at, E: e})
}

func (w *client) draftDelete(at int) (draft, error) {
	return w.draftEdit(text.Delete{At: at, By: w.number})
}

func (w *client) draftMove(at int) (draft, error) {
	if at < 0 || at > len(w.elems) {
		return draft{}, ErrRange
	}
	return draft{edit: text.Nothing{By: w.number}, cursor: at}, nil
}

func (w *client) draftEdit(x text.Edit) (draft, error) {
	if !x.Fits(len(w.elems)) {
		return draft{}, ErrRange
	}
	return draft{edit: x, cursor: text.TurnIndex(w.cursor, x)}, nil
}

// write sends a draft and makes its change; false: the link up is full, and nothing has changed.
func (w *client) write(d draft) bool {
	if !w.send(d.edit, d.cursor) {
		return false
	}
	w.elems = d.edit.Apply(w.elems)
	w.cursor = d.cursor
	if _, ok := d.edit.(text.Insert); ok {
		w.inserts++
	}
	return true
}

// receive takes a frame from the link down. With an error nothing has changed.
func (w *client) receive() error {
	x, _, err := w.take()
	if err != nil {
		return err
	}
	w.elems = x.Apply(w.elems)
	w.cursor = text.TurnIndex(w.cursor, x)
	return nil
}

// check tells what would be wrong with a frame that came down; nothing is done.
func (w *client) check(f frame.Frame) error {
	if err := w.fault(f, w.elems); err != nil {
		return err
	}
	if f.Change.Kind == text.KindInsert && f.Change.E.Number == 0 {
		return ErrRange
	}
	return nil
}
