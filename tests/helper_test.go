package tests

import "loop.example/g00693/impl"

// textsOf tells every text of at most so many of the bytes of an alphabet.
func textsOf(alphabet string, most int) []string {
	all := []string{""}
	begin := 0
	for range most {
		end := len(all)
		for _, ahead := range all[begin:end] {
			for i := range len(alphabet) {
				all = append(all, ahead+alphabet[i:i+1])
			}
		}
		begin = end
	}
	return all
}

// allFlags tells the flags of all kinds, C first and N last to turn.
func allFlags() []impl.Flags {
	all := make([]impl.Flags, 0, 64)
	for i := range 64 {
		all = append(all, impl.Flags{
			C: i&1 != 0,
			Z: i&2 != 0,
			I: i&4 != 0,
			D: i&8 != 0,
			V: i&16 != 0,
			N: i&32 != 0,
		})
	}
	return all
}

func numberOf(flag bool) int {
	if flag {
		return 1
	}
	return 0
}
