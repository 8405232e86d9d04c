package harbor

import "testing"

// The bits are gone through one by one, as often as one likes, and no further
// than one likes.
func TestBitsEndEarly(t *testing.T) {
	bits := bitsOf(1, "an image")
	for end := range signed {
		next := 0
		for number, worth := range bits {
			if number != next || worth != 0 && worth != 1 {
				t.Errorf("the bit %d is told as %d, worth %d", next, number, worth)
			}
			next++
			if number == end {
				break
			}
		}
		if next != end+1 {
			t.Errorf("%d bits told up to the bit %d", next, end)
		}
	}
}
