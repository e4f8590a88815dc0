package coedit

import (
	"coedit/frame"
	"coedit/text"
)

// enter begins a call: it locks the session that it answers. A nil session is taken for one without clients, so that no call on it panics.
func (s *Session) enter() *Session {
	if s == nil {
		s = &Session{}
	}
	s.mu.Lock()
	return s
}

// client gives a client by its number; nil: there is none.
func (s *Session) client(c int) *client {
	if c < 0 || c >= len(s.clients) {
		return nil
	}
	return s.clients[c]
}

// find gives the client that a call is for, or why there can be no such call.
func (s *Session) find(c int) (*client, error) {
	if s.stopped {
		return nil, ErrStopped
	}
	w := s.client(c)
	if w == nil {
		return nil, ErrClient
	}
	return w, nil
}

// write has a client make the change that it is asked to draft.
func (s *Session) write(call string, c int, ask func(*client) (draft, error)) error {
	s = s.enter()
	defer s.mu.Unlock()
	w, err := s.find(c)
	if err == nil {
		w.do(func() { err = s.writeBy(w, ask) })
	}
	return named(call, c, err)
}

func (s *Session) writeBy(w *client, ask func(*client) (draft, error)) error {
	d, err := ask(w)
	if err != nil {
		return err
	}
	if s.changes == mostChanges {
		return ErrMany
	}
	if !w.write(d) {
		return ErrFull
	}
	s.changes++
	return nil
}

// read reads bytes as a frame that comes up from client c, or down to it.
func (s *Session) read(c int, up bool, raw []byte) (frame.Frame, error) {
	f, ok := frame.ReadAny(raw)
	of := f.Change.Client
	// Up go a client's own changes alone, down those of all others.
	if !ok || of >= len(s.clients) || (of == c) != up {
		return frame.Frame{}, ErrFrame
	}
	return f, nil
}

// elems gives a text as it is now. It stays as it is: a change makes another row.
func (s *Session) elems(c int) []text.Elem {
	s = s.enter()
	defer s.mu.Unlock()
	var row []text.Elem
	if w := s.client(c); w != nil {
		w.do(func() { row = w.elems })
	} else if c == serverNumber && s.server != nil {
		s.server.do(func() { row = s.server.elems })
	}
	return row
}
