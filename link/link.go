// Package link: a link carries things one way, in order, and has room for so many of them.
package link

// Link is a link for things of one type. One goroutine at a time may use it.
type Link[T any] struct {
	things chan T
}

// New makes an empty link with room for so many things (at least one).
func New[T any](room int) *Link[T] {
	return &Link[T]{things: make(chan T, max(room, 1))}
}

// Put lays a thing at the end of the link; false: the link is full, and stays as it is.
func (l *Link[T]) Put(thing T) bool {
	select {
	case l.things <- thing:
		return true
	default:
		return false
	}
}

// Take takes away what stands at the head of the link; false: the link is empty.
func (l *Link[T]) Take() (T, bool) {
	select {
	case thing := <-l.things:
		return thing, true
	default:
		var none T
		return none, false
	}
}

// Head tells what stands at the head of the link, which stays as it is; false: it is empty.
func (l *Link[T]) Head() (T, bool) {
	var head T
	waiting := len(l.things)
	// A channel does not show what is in it: all goes out and in again, once round.
	for i := range waiting {
		thing := <-l.things
		if i == 0 {
			head = thing
		}
		l.things <- thing
	}
	return head, waiting > 0
}

// Full tells whether there is no room left.
func (l *Link[T]) Full() bool { return len(l.things) == cap(l.things) }

// Waiting tells how many things stand in the link.
func (l *Link[T]) Waiting() int { return len(l.things) }
