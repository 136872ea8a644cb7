// Package given tests what the program is given and keeps: packages api and plain, the faces, the rules of the language.
package given

import (
	"crypto/sha256"
	"encoding/hex"
	"errors"
	"os"
	"testing"

	"leadlight/api"
	"leadlight/plain"
)

// P5: both packages stay to the byte, and have no file beside the one.
func TestToTheByte(t *testing.T) {
	for name, want := range map[string]string{
		"api":   "e2252d704e82991d75b270154a2abf2e753bea8071504657e701022315d34b00",
		"plain": "d03c9d45f8e6befdf8cc718c5e966f5e17950c82046b08435e51abc5e8f4f61e",
	} {
		text, err := os.ReadFile("../" + name + "/" + name + ".go")
		if err != nil {
			t.Fatal(err)
		}
		sum := sha256.Sum256(text)
		if got := hex.EncodeToString(sum[:]); got != want {
			t.Error(name, got)
		}
		if files, err := os.ReadDir("../" + name); err != nil || len(files) != 1 {
			t.Error(name, files, err)
		}
	}
}

// P5: the numbers of the constants.
func TestConstants(t *testing.T) {
	for _, c := range []struct {
		name      string
		got, want int
	}{
		{"MaxPart", api.MaxPart, 1073741824}, {"MaxName", api.MaxName, 12}, {"MaxValue", api.MaxValue, 200}, {"MaxText", api.MaxText, 10000},
		{"MaxDeep", api.MaxDeep, 10}, {"MaxNodes", api.MaxNodes, 100}, {"MaxAttrs", api.MaxAttrs, 12}, {"MaxRules", api.MaxRules, 40},
		{"MaxSteps", api.MaxSteps, 5}, {"MaxPoints", api.MaxPoints, 30}, {"MaxSide", api.MaxSide, 40}, {"MaxEdits", api.MaxEdits, 300},
		{"MaxLines", api.MaxLines, 100}, {"Workers", api.Workers, 16},
	} {
		if c.got != c.want {
			t.Error(c.name, c.got, "want", c.want)
		}
	}
}

// P5, P3: the errors' texts and numbers, bare and with a place.
func TestErrors(t *testing.T) {
	for i, c := range []struct {
		err  error
		text string
	}{
		{api.ErrText, "text"}, {api.ErrBound, "bound"}, {api.ErrShape, "shape"}, {api.ErrName, "name"}, {api.ErrNone, "none"}, {api.ErrExist, "exist"},
		{api.ErrFull, "full"}, {api.ErrDeep, "deep"}, {api.ErrCycle, "cycle"}, {api.ErrValue, "value"}, {api.ErrZero, "zero"},
	} {
		if c.err.Error() != "leadlight: "+c.text {
			t.Error(c.err)
		}
		if code, at := plain.Code(c.err); code != i+1 || at != -1 {
			t.Error(c.err, code, at)
		}
		placed := error(&api.Fault{At: 7, Err: c.err})
		if code, at := plain.Code(placed); code != i+1 || at != 7 || !errors.Is(placed, c.err) || placed.Error() != c.err.Error() {
			t.Error(placed, code, at)
		}
	}
	if code, at := plain.Code(nil); code != 0 || at != -1 {
		t.Error(code, at)
	}
	if code, at := plain.Code(errors.New("leadlight: text")); code != -1 || at != -1 {
		t.Error(code, at)
	}
}
