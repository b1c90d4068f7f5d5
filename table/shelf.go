package table

import (
	"bytes"
	"slices"

	"sealchain/api"
)

// shelf holds values by keys, increasing.
type shelf[K, V any] struct {
	order  func(a, b K) int
	keys   []K
	values []V
}

func (s *shelf[K, V]) find(key K) (int, bool) {
	return slices.BinarySearchFunc(s.keys, key, s.order)
}

func (s *shelf[K, V]) get(key K) (V, bool) {
	var none V
	i, is := s.find(key)
	if !is {
		return none, false
	}
	return s.values[i], true
}

func (s *shelf[K, V]) put(key K, value V) {
	i, is := s.find(key)
	if is {
		s.values[i] = value
		return
	}
	s.keys = slices.Insert(s.keys, i, key)
	s.values = slices.Insert(s.values, i, value)
}

// after is the first key behind one.
func (s *shelf[K, V]) after(key K) (K, bool) {
	var none K
	i, is := s.find(key)
	if is {
		i++
	}
	if i == len(s.keys) {
		return none, false
	}
	return s.keys[i], true
}

func (s *shelf[K, V]) count() int { return len(s.keys) }

// bytewise is the order of names.
type bytewise struct{}

func (bytewise) compare(a, b api.Name) int { return bytes.Compare(a[:], b[:]) }

// upward is the order of numbers.
type upward struct{}

func (upward) compare(a, b int) int { return a - b }
