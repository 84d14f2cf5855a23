package tests

import (
	"slices"
	"testing"

	"loop.example/g00693/impl"
)

// spareRoom is more than any chapter's function has to put behind a list.
const spareRoom = 5000

// copyWithRoom copies a list that has some room to spare, filled with a mark,
// so that whatever is put there shows.
func copyWithRoom[T any](list []T, mark T) []T {
	room := make([]T, len(list)+spareRoom)
	for i := copy(room, list); i < len(room); i++ {
		room[i] = mark
	}
	return room[:len(list)]
}

// checkWithRoom looks at such a copy and at the room behind it.
func checkWithRoom[T comparable](t *testing.T, what string, list []T, want []T, mark T) {
	t.Helper()
	if !slices.Equal(list, want) {
		t.Errorf("%s: the argument changed", what)
	}
	for _, one := range list[len(list):cap(list)] {
		if one != mark {
			t.Errorf("%s: something was put behind the argument", what)
			return
		}
	}
}

// scribbleOver writes into all of an answer, and into all the room behind it.
func scribbleOver[T any](list []T, mark T) {
	list = list[:cap(list)]
	for i := range list {
		list[i] = mark
	}
}

// textsOf tells every text of at most so many of the bytes of an alphabet.
func textsOf(alphabet string, most int) []string {
	all := []string{""}
	begin := 0
	for range most {
		end := len(all)
		for _, ahead := range all[begin:end] {
			for i := range len(alphabet) {
				all = append(all, ahead+alphabet[i:i+1])
			}
		}
		begin = end
	}
	return all
}

// allFlags tells the flags of all kinds, C first and N last to turn.
func allFlags() []impl.Flags {
	all := make([]impl.Flags, 0, 64)
	for i := range 64 {
		all = append(all, impl.Flags{
			C: i&1 != 0,
			Z: i&2 != 0,
			I: i&4 != 0,
			D: i&8 != 0,
			V: i&16 != 0,
			N: i&32 != 0,
		})
	}
	return all
}

func numberOf(flag bool) int {
	if flag {
		return 1
	}
	return 0
}
