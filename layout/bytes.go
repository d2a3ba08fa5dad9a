package layout

import (
	"lagoon/api"
	"lagoon/codec"
)

// forms is the forms of numbers, one behind the other.
func forms(numbers ...int) string {
	var w codec.Writer
	for _, n := range numbers {
		w.Num(n)
	}
	return string(w.Bytes())
}

// fill takes up a number for each place of a list.
func fill(numbers []int, r *codec.Reader) {
	for i := range numbers {
		numbers[i] = r.Num()
	}
}

// decoded is what a decoder answers: the thing that is taken up from bytes, if these are just its own. To look at that again by what encodes it leaves no thing a second form, and lets none come that may not be.
func decoded[T any](s string, encode func(T) (string, api.Errno), take func(*codec.Reader) T) (T, api.Errno) {
	x := take(codec.NewReader([]byte(s)))
	if own, err := encode(x); err != api.OK || own != s {
		var none T
		return none, api.ErrForm
	}
	return x, api.OK
}

// gathered is the sum of 2^i for all places i of a list that are taken.
func gathered[T ~bool](taken []T) int {
	sum := 0
	for i, is := range taken {
		if is {
			sum |= 1 << i
		}
	}
	return sum
}

// spread says of each place of a list whether it is taken, as a sum tells. What of the sum is beyond the last place is left out.
func spread[T ~bool](sum int, taken []T) {
	for i := range taken {
		taken[i] = sum>>i&1 == 1
	}
}
