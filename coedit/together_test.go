package coedit_test

import (
	"slices"
	"sync"
	"testing"

	"coedit/coedit"
	"coedit/plain"
)

// drain delivers until all links are empty.
func drain(s *coedit.Session, clients int) {
	for left := true; left; {
		left = false
		for c := range clients {
			up, down := s.Deliver(c, true), s.Deliver(c, false)
			left = left || up == nil || down == nil
		}
	}
}

func elems(s *coedit.Session, c int) []coedit.Elem {
	l, _ := plain.Elems(s, c, 0)
	return l
}

func empty(s *coedit.Session, clients int) bool {
	for c := range clients {
		if up, down := s.Waiting(c); up != 0 || down != 0 {
			return false
		}
	}
	return true
}

// together: P10 of a session whose links are all empty.
func together(t *testing.T, s *coedit.Session, clients int) {
	t.Helper()
	if !empty(s, clients) {
		t.Fatalf("frames are left")
	}
	want, table := elems(s, -1), plain.Cursors(s, clients)
	for c := range clients {
		if got := elems(s, c); !slices.Equal(got, want) || s.Cursor(c) != table[c] {
			t.Fatalf("client %d has %v and its cursor at %d; the server %v and %d", c, got, s.Cursor(c), want, table[c])
		}
	}
}

// walk makes sessions and calls on them as the dice fall. Ahead of each call it asks ahead, and behind the call what that has answered.
func walk(t *testing.T, ahead func(s *coedit.Session, clients, k, c int) func()) {
	d := dice(11)
	for round := range 60 {
		clients := 2 + round%5
		s := begin(t, clients, 1+d.under(8))
		for range 150 {
			k, c := 1+d.under(6), d.under(clients)
			if k == 6 {
				k = 1
			}
			at, r := d.under(len(elems(s, c))+1), 'a'+d.under(26)
			behind := ahead(s, clients, k, c)
			plain.Do(s, k, c, at, r)
			behind()
		}
		drain(s, clients)
		ahead(s, clients, 0, 0)()
		together(t, s, clients)
		s.Stop()
	}
}

// P10: whenever all links are empty all are together, on the way and in the end.
func TestTogether(t *testing.T) {
	times := 0
	walk(t, func(s *coedit.Session, clients, k, c int) func() {
		return func() {
			if empty(s, clients) {
				together(t, s, clients)
				times++
			}
		}
	})
	if times < 100 {
		t.Errorf("all links were empty only %d times", times)
	}
}

// P10: at every time the server's text is what its log makes of the empty text.
func TestLogMakesTheText(t *testing.T) {
	walk(t, func(s *coedit.Session, clients, k, c int) func() {
		return func() {
			var l []coedit.Elem
			for _, x := range s.Log() {
				switch x.Kind {
				case 1:
					l = slices.Insert(l, x.At, x.E)
				case 2:
					l = slices.Delete(l, x.At, x.At+1)
				}
			}
			if got := elems(s, -1); !slices.Equal(got, l) {
				t.Fatalf("the server has %v, its log makes %v", got, l)
			}
		}
	})
}

// P10: two elements stand in one order, in whatever texts and whenever.
func TestOneOrder(t *testing.T) {
	orders := map[*coedit.Session]map[[2]coedit.Elem]int{}
	walk(t, func(s *coedit.Session, clients, k, c int) func() {
		if orders[s] == nil {
			orders[s] = map[[2]coedit.Elem]int{}
		}
		order := orders[s]
		return func() {
			for who := -1; who < clients; who++ {
				l := elems(s, who)
				for i, a := range l {
					for _, b := range l[i+1:] {
						if order[[2]coedit.Elem{b, a}] != 0 {
							t.Fatalf("the text of %d has %v ahead of %v, another had them the other way", who, a, b)
						}
						order[[2]coedit.Elem{a, b}] = 1
					}
				}
			}
		}
	})
}

// P10: a cursor stays left of the element that is right of it, unless that is deleted (or the client moves its cursor).
func TestCursorStays(t *testing.T) {
	walk(t, func(s *coedit.Session, clients, k, c int) func() {
		right := map[int]coedit.Elem{}
		for who := range clients {
			if l, at := elems(s, who), s.Cursor(who); at < len(l) && (k != 3 || who != c) {
				right[who] = l[at]
			}
		}
		return func() {
			for who, e := range right {
				if i := slices.Index(elems(s, who), e); i >= 0 && i != s.Cursor(who) {
					t.Fatalf("client %d's cursor is at %d, and what was right of it at %d", who, s.Cursor(who), i)
				}
			}
		}
	})
}

// P1, P10: also if many goroutines call at one time.
func TestTogetherFromManyGoroutines(t *testing.T) {
	s := begin(t, 6, 4)
	var all sync.WaitGroup
	for c := range 6 {
		all.Go(func() {
			d := dice(c)
			for range 100 {
				plain.Do(s, 1+d.under(3), c, d.under(10), 'a'+c)
				s.Deliver(d.under(6), d.under(2) == 0)
				look(s)
			}
		})
	}
	all.Wait()
	drain(s, 6)
	together(t, s, 6)
	if len(s.Log()) == 0 {
		t.Errorf("nothing was delivered")
	}
}
