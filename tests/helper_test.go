package tests

// textsOf tells every text of at most so many of the bytes of an alphabet.
func textsOf(alphabet string, most int) []string {
	all := []string{""}
	begin := 0
	for range most {
		end := len(all)
		for _, ahead := range all[begin:end] {
			for i := range len(alphabet) {
				all = append(all, ahead+alphabet[i:i+1])
			}
		}
		begin = end
	}
	return all
}
