package play

import (
	"strconv"

	"leadlight/frac"
	"leadlight/live"
)

// kinds of edits that a number tells apart.
const kinds = 8

// editOf an element n, by its kind and the rest of the number, q.
func editOf(kind, q, n int) live.Edit {
	switch kind {
	case 0, 1:
		return set(n, letter("xywh", q), halves(q/4%12))
	case 2:
		return set(n, "fill", letter("abcd", q))
	case 3:
		return set(n, "move", "move "+strconv.Itoa(q%5)+" "+strconv.Itoa(q/5%5))
	case 4:
		return live.Edit{Kind: "add", N: n, Name: "box"}
	case 5:
		return live.Edit{Kind: "remove", N: n}
	case 6:
		return set(n, "show", yesOrNo(q))
	}
	return set(n, "level", strconv.Itoa(q%4))
}

func set(n int, name, value string) live.Edit {
	return live.Edit{Kind: "set", N: n, Name: name, Value: value}
}

// letter of a few, by a number from 0 on, around and around.
func letter(few string, q int) string {
	i := q % len(few)
	return few[i : i+1]
}

func halves(many int) string {
	a, _ := frac.Make(many, 2) // of a few halves there is no error
	return frac.Text(a)
}

func yesOrNo(q int) string {
	if q%2 == 0 {
		return "yes"
	}
	return "no"
}
