package mark

import (
	"regexp"
	"strings"
	"testing"

	"leadlight/api"
	"leadlight/plain"
)

// P32: also with `></NAME>` where there are no children.
func TestRead(t *testing.T) {
	for s, want := range map[string]Node{
		`<a></a>`: el("a"), `<a b="1"></a>`: with(el("a"), "b", "1"), `<a><b></b></a>`: el("a", el("b")), `<a><b></b><b/><b></b></a>`: el("a", el("b"), el("b"), el("b")), `<a><a></a></a>`: el("a", el("a")),
		`<a b="/>"/>`: {}, `<a b="/&gt;"/>`: with(el("a"), "b", "/>"), `<a b="&lt;/a&gt;"></a>`: with(el("a"), "b", "</a>"),
	} {
		x, err := Read(s)
		if none(want) {
			if !none(x) || err != api.ErrText {
				t.Error(s, x, err)
			}
		} else if !same(x, want) || err != nil {
			t.Error(s, x, err)
		}
	}
}

// P32: what is no such text: ErrText, bare, with no node beside it.
func TestReadWrongText(t *testing.T) {
	for _, s := range []string{
		"", " ", "\n", "a", "<", ">", "</", "/>", "<>", "</>", "<>x</>", "<></>", "<a", "<a/", "<a>", "<a b", "<a b=", `<a b="`, `<a b=""`, `<a b=""/`, "<a><", "<a></", "<a></a", "</a>", "<a/>>", "<<a/>", "<a//>", "<a/b>", "<a>/</a>",
		" <a/>", "<a/> ", "<a/>\n", "\n<a/>", "\xef\xbb\xbf<a/>", "<a/><b/>", "<a/></a>", "<a></a></a>", "<a></a><a></a>", "<a/>x", "x<a/>", "<a/>\x00",
		"<a>x</a>", "<a> </a>", "<a>\n</a>", "<a><b/> </a>", "<a> <b/></a>", "<a><b/> <b/></a>", "<a>&lt;</a>", "<a></b>", "<a></aa>", "<aa></a>", "<a></A>", "<a></ a>", "<a></a >", `<a></a b="">`, "<a></a/>", "<a><b></a></b>", "<a><b></a>", "<a><b/></b></a>", "<a></>",
		"< a/>", "<a />", "<a >", "<a ></a>", "<a  />", `<a  b=""/>`, `<a b="" />`, `<a b=""  c=""/>`, `<a b=""c=""/>`, "<a b/>", "<a b=/>", "<a b=x/>", "<a b='x'/>", `<a b ="x"/>`, `<a b= "x"/>`, `<a b=="x"/>`, `<a =""/>`, `<a ="x"/>`, `<a b"x"/>`, `<a "x"/>`, `<a b="x/>`, `<a b="x""/>`, `<a b="x"y/>`, `<a/b="x"/>`, `<a b/c="x"/>`, `<a<b/>`, `<a b<c="x"/>`, `<a b>c="x"/>`, `<a="x"/>`, `<"a"/>`, `<a"/>`, "<!a/>>", "<a/><!-- -->", "<?a?><a/>",
		`<a b="<"/>`, `<a b=">"/>`, `<a b="&"/>`, `<a b="&;"/>`, `<a b="&lt"/>`, `<a b="&lt ;"/>`, `<a b="&LT;"/>`, `<a b="&apos;"/>`, `<a b="&#60;"/>`, `<a b="&quo;"/>`, `<a b="&quott;"/>`, `<a b="&&lt;"/>`, `<a b="&lt;&"/>`, `<a b="&amp"/>`, `<a b="&`, `<a b="&l`, `<a b="&lt;`,
	} {
		if x, err := Read(s); !none(x) || err != api.ErrText {
			t.Errorf("%q: %v %v", s, x, err)
		}
	}
}

// P32: names and values of a text are looser than a node's: what a text may be tells Check's error, with its place.
func TestReadWrongNode(t *testing.T) {
	value := func(s string) string { return `<a><b/><c k="` + s + `"/></a>` }
	for s, want := range map[string]struct {
		place int
		err   error
	}{
		"<A/>": {0, api.ErrName}, "<1/>": {0, api.ErrName}, "<-/>": {0, api.ErrName}, "<a\t/>": {0, api.ErrName}, "<a\n></a\n>": {0, api.ErrName}, "<&lt;/>": {0, api.ErrName}, "<&/>": {0, api.ErrName}, "<'/>": {0, api.ErrName}, "<\x00/>": {0, api.ErrName}, "<é/>": {0, api.ErrName}, "<\xff></\xff>": {0, api.ErrName}, "<!--/>": {0, api.ErrName}, "<?a?/>": {0, api.ErrName}, "<abcdefghijklm/>": {0, api.ErrName},
		`<a B=""/>`: {0, api.ErrName}, "<a \t=\"\"/>": {0, api.ErrName}, `<a &lt;=""/>`: {0, api.ErrName}, `<a '=""/>`: {0, api.ErrName}, `<a b="" b=""/>`: {0, api.ErrExist}, `<a b="" B="" b=""/>`: {0, api.ErrName}, "<a b=\"\n\" b=\"\"/>": {0, api.ErrValue}, "<a b=\"\" b=\"\n\"/>": {0, api.ErrExist},
		value("\n"): {2, api.ErrValue}, value("\x00"): {2, api.ErrValue}, value("\x7f"): {2, api.ErrValue}, value("é"): {2, api.ErrValue}, value("\xff"): {2, api.ErrValue}, value(strings.Repeat("v", 201)): {2, api.ErrValue}, value(strings.Repeat("&lt;", 201)): {2, api.ErrValue},
		"<a><b/><C></C></a>": {2, api.ErrName}, "<a><B/><C></C></a>": {1, api.ErrName}, "<a><b><C/></b><D/></a>": {2, api.ErrName}, "<a><b><c/></b><D/></a>": {3, api.ErrName},
		strings.Repeat("<a>", 11) + strings.Repeat("</a>", 11): {10, api.ErrDeep}, strings.Repeat("<a>", 10) + "<A/>" + strings.Repeat("</a>", 10): {10, api.ErrDeep}, strings.Repeat("<a>", 1428) + strings.Repeat("</a>", 1428): {10, api.ErrDeep},
		"<a>" + strings.Repeat("<b/>", 100) + "</a>": {100, api.ErrFull}, "<a>" + strings.Repeat("<b/>", 2498) + "</a>": {100, api.ErrFull}, "<a>" + strings.Repeat("<b></b>", 99) + "<B/></a>": {100, api.ErrFull},
		"<a" + strings.Repeat(` b=""`, 13) + "/>": {0, api.ErrFull}, "<a" + strings.Repeat(` b=""`, 12) + "/>": {0, api.ErrExist}, "<a" + strings.Repeat(` B=""`, 1999) + "/>": {0, api.ErrFull},
		"<" + strings.Repeat("n", 9997) + "/>": {0, api.ErrName}, `<a b="` + strings.Repeat("v", 9991) + `"/>`: {0, api.ErrValue},
	} {
		if x, err := Read(s); !none(x) || !told(err, want.err, want.place) {
			code, at := plain.Code(err)
			t.Errorf("%.60q: %v %d %d, want %v %d", s, x, code, at, want.err, want.place)
		}
	}
	for _, s := range []string{value(strings.Repeat("v", 200)), value(strings.Repeat("&quot;", 200)), "<a>" + strings.Repeat("<b/>", 99) + "</a>", strings.Repeat("<a>", 10) + strings.Repeat("</a>", 10)} {
		if _, err := Read(s); err != nil {
			t.Errorf("%.60q: %v", s, err)
		}
	}
}

// P32, P3: ErrBound ahead of ErrText, ErrText ahead of Check's errors.
func TestReadOrder(t *testing.T) {
	for s, want := range map[string]error{
		"<A><b></A>": api.ErrText, "<A/> ": api.ErrText, `<A b="&"/>`: api.ErrText, "<a b=\"\n\"></b>": api.ErrText, `<a b="" b=""/>x`: api.ErrText, strings.Repeat("<a>", 11): api.ErrText, strings.Repeat("<a>", 3333): api.ErrText, strings.Repeat("<", 10000): api.ErrText, "<a>" + strings.Repeat("<b/>", 200) + "</b>": api.ErrText,
		strings.Repeat("<", 10001): api.ErrBound, strings.Repeat("<a>", 3334): api.ErrBound, strings.Repeat(" ", 1<<20): api.ErrBound, "<" + strings.Repeat("n", 9998) + "/>": api.ErrBound, strings.Repeat("<a>", 1429) + strings.Repeat("</a>", 1429): api.ErrBound, "<a/>" + strings.Repeat("\x00", 9997): api.ErrBound, "<a/>" + strings.Repeat("\x00", 9996): api.ErrText,
	} {
		if x, err := Read(s); !none(x) || err != want {
			t.Errorf("%.60q: %v %v, want %v", s, x, err, want)
		}
	}
}

var (
	begin = regexp.MustCompile(`^<([^ ="<>/]+)((?: [^ ="<>/]+="(?:[^"<>&]|&lt;|&gt;|&amp;|&quot;)*")*)(/?)>`)
	attr  = regexp.MustCompile(`^ ([^ ="<>/]+)="([^"]*)"`)
	end   = regexp.MustCompile(`^</([^ ="<>/]+)>`)
)

// plainRead is another reader: it cuts beginnings and ends off the text, and keeps the open elements in a list.
func plainRead(s string) (Node, bool) {
	open := []Node{{}}
	for rest := s; rest != ""; {
		if w := end.FindStringSubmatch(rest); w != nil {
			last := len(open) - 1
			if last == 0 || open[last].Name != w[1] {
				return Node{}, false
			}
			open[last-1].Kids = append(open[last-1].Kids, open[last])
			open, rest = open[:last], rest[len(w[0]):]
			continue
		}
		w := begin.FindStringSubmatch(rest)
		if w == nil {
			return Node{}, false
		}
		n := Node{Name: w[1]}
		for left := w[2]; left != ""; {
			a := attr.FindStringSubmatch(left)
			value := strings.NewReplacer("&lt;", "<", "&gt;", ">", "&amp;", "&", "&quot;", "\"").Replace(a[2])
			n.Attrs, left = append(n.Attrs, api.Attr{Name: a[1], Value: value}), left[len(a[0]):]
		}
		if w[3] == "" {
			open = append(open, n)
		} else {
			last := len(open) - 1
			open[last].Kids = append(open[last].Kids, n)
		}
		rest = rest[len(w[0]):]
	}
	if len(open) != 1 || len(open[0].Kids) != 1 {
		return Node{}, false
	}
	return open[0].Kids[0], true
}

// alike: Read answers as the other reader and Check do; it tells whether that was a node.
func alike(t *testing.T, s string) bool {
	t.Helper()
	want, ok := plainRead(s)
	err := error(api.ErrText)
	if ok {
		err = Check(want)
	}
	if err != nil {
		want = Node{}
	}
	x, e := Read(s)
	code, at := plain.Code(e)
	wantCode, wantAt := plain.Code(err)
	if !same(x, want) || code != wantCode || at != wantAt {
		t.Fatalf("%q: %v %v, want %v %v", s, x, e, want, err)
	}
	return ok
}

// P32, P1: all short lists of pieces that a text is made of, against another reader.
func TestReadAllShort(t *testing.T) {
	pieces := []string{"<a", "</a>", "<", "/", ">", "/>", " ", ` b="`, `"`, "&lt;", "&", "="}
	read := 0
	var each func(s string, left int)
	each = func(s string, left int) {
		if alike(t, s) {
			read++
		}
		if left > 0 {
			for _, p := range pieces {
				each(s+p, left-1)
			}
		}
	}
	each("", 6)
	if read < 80 {
		t.Error("too few were read:", read)
	}
}

// P32, P1: texts with one byte left out, put in or changed, against another reader.
func TestReadOneByteOff(t *testing.T) {
	read := 0
	for _, s := range []string{`<a/>`, `<a></a>`, `<ab c="d&lt;&gt;&amp;&quot;" e=""><f/><ab g="h"></ab></ab>`, `<a><b><c/></b><b x="1" y="2"></b></a>`} {
		for i := range len(s) + 1 {
			for _, c := range " =\"<>/&;abA1-\n\x00" {
				if alike(t, s[:i]+string(c)+s[i:]) {
					read++
				}
				if i < len(s) && alike(t, s[:i]+string(c)+s[i+1:]) {
					read++
				}
			}
			if i < len(s) {
				alike(t, s[:i]+s[i+1:])
			}
			alike(t, s[:i])
			alike(t, s[i:])
		}
	}
	if read < 200 {
		t.Error("too few were read:", read)
	}
}

// P4: what is answered is new memory: lists of one answer share none, and another answer has its own.
func TestReadNewMemory(t *testing.T) {
	s := `<a k="1" l="2"><b k="3"/><b k="4"/><c><d/></c></a>`
	x, e1 := Read(s)
	y, e2 := Read(s)
	if e1 != nil || e2 != nil {
		t.Fatal(e1, e2)
	}
	x.Attrs[0].Value = "9"
	x.Kids[0].Attrs = append(x.Kids[0].Attrs, api.Attr{Name: "z"})
	x.Kids[2].Kids = append(x.Kids[2].Kids, el("z"))
	_ = append(x.Attrs[:cap(x.Attrs)], api.Attr{Name: "z"})
	x.Kids[1] = Node{}
	if again, err := Text(y); again != s || err != nil {
		t.Error(again, err)
	}
	if z, err := Read(s); !same(y, z) || err != nil || !same(x.Kids[2], el("c", el("d"), el("z"))) || !same(x.Kids[0], with(el("b"), "k", "3", "z", "")) {
		t.Error(x, z, err)
	}
}

// P1, P3, P33: whatever it is given, it answers as another reader, and what it reads is written again.
func FuzzRead(f *testing.F) {
	for _, s := range []string{"", "<a/>", "<a></a>", `<a b="&lt;" c="x"><d/></a>`, "<A/>", `<a b="&"/>`, `<a b="" b=""/>`} {
		f.Add(s)
	}
	f.Fuzz(func(t *testing.T, s string) {
		if len(s) > api.MaxText || !alike(t, s) {
			return
		}
		n, err := Read(s)
		if err != nil {
			return
		}
		text, err := Text(n)
		if err != nil || len(text) > len(s) {
			t.Fatal(text, err)
		}
		if x, err := Read(text); !same(x, n) || err != nil {
			t.Fatal(text, x, err)
		}
	})
}
