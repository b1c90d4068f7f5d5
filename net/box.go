package net

import "sealchain/api"

const mostRoom = 64

// Box is a mailbox.
type Box[T any] struct {
	items chan T
}

// NewBox is an empty one.
func NewBox[T any](room int) (*Box[T], api.Errno) {
	if room < 1 || room > mostRoom {
		return nil, api.ErrArg
	}
	return &Box[T]{items: make(chan T, room)}, api.OK
}

// lane is the channel; of no box none, on which nothing ever passes.
func (b *Box[T]) lane() chan T {
	if b == nil {
		return nil
	}
	return b.items
}

// Put puts one thing in.
func (b *Box[T]) Put(x T) bool {
	select {
	case b.lane() <- x:
		return true
	default:
		return false
	}
}

// Take takes the first one out.
func (b *Box[T]) Take() (x T, is bool) {
	select {
	case x = <-b.lane():
		return x, true
	default:
		return x, false
	}
}

// Len is how many there are.
func (b *Box[T]) Len() int { return len(b.lane()) }

// First takes the first one out of the box, or else out of the other one; a single select would choose by chance.
func (b *Box[T]) First(other *Box[T]) (x T, is bool) {
	select {
	case x = <-b.lane():
		return x, true
	default:
		return other.Take()
	}
}
