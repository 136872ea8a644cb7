package script

import (
	"strconv"
	"strings"

	"leadlight/live"
	"leadlight/mark"
	"leadlight/pick"
	"leadlight/scene"
	"leadlight/style"
)

// Sides of each picture of a script.
const (
	wide = 8
	high = 6
)

// nothing is the answer that would be empty.
const nothing = "nothing"

// player of a script: its picture, and the sheet's text, by which the next one is opened.
type player struct {
	*live.Live
	sheet string
}

// begin a new picture, by the sheet that there is.
func (p *player) begin(n mark.Node) error {
	l, err := live.New(n, p.sheet, wide, high)
	if err != nil {
		return err
	}
	p.Live = l
	return nil
}

func (p *player) open(l parts) (string, error) {
	n, err := mark.Read(l.text)
	if err != nil {
		return "", err
	}
	if err := p.begin(n); err != nil {
		return "", err
	}
	return "ok", nil
}

func (p *player) setSheet(l parts) (string, error) {
	sheet := sheetText(l.text)
	s, err := p.edit(live.Edit{Kind: "sheet", Value: sheet})
	if err != nil {
		return "", err
	}
	p.sheet = sheet
	return s, nil
}

// sheetText as style reads it, of a line's.
func sheetText(s string) string {
	if s == "" {
		return ""
	}
	return strings.ReplaceAll(s, "; ", "\n") + "\n"
}

func (p *player) add(l parts) (string, error) {
	in, at := l.numbers[0], l.numbers[1]
	if _, err := p.Do(live.Edit{Kind: "add", N: in, At: at, Name: l.name}); err != nil {
		return "", err
	}
	return strconv.Itoa(p.Doc().Kids(in)[at]), nil
}

func (p *player) remove(l parts) (string, error) {
	return p.edit(live.Edit{Kind: "remove", N: l.numbers[0]})
}

func (p *player) move(l parts) (string, error) {
	return p.edit(live.Edit{Kind: "move", N: l.numbers[0], M: l.numbers[1], At: l.numbers[2]})
}

func (p *player) set(l parts) (string, error) {
	return p.edit(live.Edit{Kind: "set", N: l.numbers[0], Name: l.name, Value: l.text})
}

func (p *player) unset(l parts) (string, error) {
	return p.edit(live.Edit{Kind: "unset", N: l.numbers[0], Name: l.name})
}

// edit of the picture: the rows that are painted anew.
func (p *player) edit(e live.Edit) (string, error) {
	rows, err := p.Do(e)
	if err != nil {
		return "", err
	}
	return numbersText(rows), nil
}

func (p *player) show(parts) (string, error) {
	return strings.ReplaceAll(p.Picture().Text(), "\n", ";"), nil
}

func (p *player) text(parts) (string, error) {
	return mark.Text(p.Node())
}

func (p *player) find(l parts) (string, error) {
	s, err := pick.Read(l.text)
	if err != nil {
		return "", err
	}
	return numbersText(pick.All(p.Doc(), s)), nil
}

func (p *player) styleOf(l parts) (string, error) {
	rules, err := style.Read(p.sheet)
	if err != nil {
		return "", err
	}
	value := style.Of(p.Doc(), rules, l.numbers[0], l.name)
	if value == "" {
		return nothing, nil
	}
	return value, nil
}

func (p *player) pieces(parts) (string, error) {
	rules, err := style.Read(p.sheet)
	if err != nil {
		return "", err
	}
	pieces, err := scene.Pieces(p.Doc(), rules)
	if err != nil {
		return "", err
	}
	var words []string
	for _, one := range pieces {
		words = append(words, strconv.Itoa(one.Node)+":"+one.Fill)
	}
	return listText(words), nil
}

func (p *player) count(parts) (string, error) {
	names, many := p.Picture().Count()
	var words []string
	for i, name := range names {
		words = append(words, name+":"+strconv.Itoa(many[i]))
	}
	return listText(words), nil
}

func numbersText(numbers []int) string {
	var words []string
	for _, n := range numbers {
		words = append(words, strconv.Itoa(n))
	}
	return listText(words)
}

func listText(words []string) string {
	if len(words) == 0 {
		return nothing
	}
	return strings.Join(words, " ")
}
