package stl

import (
	"math"
	"math/rand"
	"slices"
	"strconv"
	"strings"
	"testing"

	"additive/api"
	"additive/mesh"
	"additive/num"
)

const edge = api.MaxCoord

// tetrahedron has four vertices, each of which three triangles share.
func tetrahedron() api.Mesh {
	return api.Mesh{
		Verts: []api.Vec{{}, {X: 10}, {Y: -20}, {Z: 300}},
		Tris:  []api.Tri{{A: 0, B: 2, C: 1}, {A: 0, B: 1, C: 3}, {A: 0, B: 3, C: 2}, {A: 1, B: 2, C: 3}},
	}
}

// repeated returns a mesh with so many triangles, whose corners are all v.
func repeated(tris int, v api.Vec) api.Mesh {
	return api.Mesh{Verts: []api.Vec{v}, Tris: make([]api.Tri, tris)}
}

// unshared returns m in the form of Parse and Unpack: each triangle has vertices of its own.
func unshared(m api.Mesh) api.Mesh {
	var own api.Mesh
	for i := range m.Tris {
		a, b, c, _ := mesh.Corners(m, i)
		own.Verts = append(own.Verts, a, b, c)
		own.Tris = append(own.Tris, api.Tri{A: 3 * i, B: 3*i + 1, C: 3*i + 2})
	}
	return own
}

func clone(m api.Mesh) api.Mesh {
	return api.Mesh{Verts: slices.Clone(m.Verts), Tris: slices.Clone(m.Tris)}
}

// invalid are meshes that are not valid, with the error of mesh.Check.
func invalid() map[api.Errno]api.Mesh {
	return map[api.Errno]api.Mesh{
		api.ErrLimit: {Verts: make([]api.Vec, api.MaxVerts+1), Tris: []api.Tri{{A: -1}}},
		api.ErrRange: {Verts: []api.Vec{{Y: edge + 1}}, Tris: make([]api.Tri, 1366)},
		api.ErrArg:   {Verts: []api.Vec{{}}, Tris: append(make([]api.Tri, 4000), api.Tri{C: 1})},
	}
}

// facet returns the lines of a facet whose corners are all the same.
func facet(vertex string) string {
	return "  facet\n" + strings.Repeat("    vertex "+vertex+"\n", 3) + "  endfacet\n"
}

// P8.1.
func TestPrint(t *testing.T) {
	for _, q := range []struct {
		m    api.Mesh
		want string
	}{
		{api.Mesh{}, "solid\nendsolid\n"},
		{api.Mesh{Verts: []api.Vec{{X: 5}}}, "solid\nendsolid\n"},
		{
			api.Mesh{Verts: []api.Vec{{X: 1, Y: 2, Z: 3}, {X: -4, Y: 0, Z: 65536}, {X: -65536, Y: 70, Z: -8}}, Tris: []api.Tri{{A: 2, B: 0, C: 1}, {A: 1, B: 1, C: 1}}},
			"solid\n  facet\n    vertex -65536 70 -8\n    vertex 1 2 3\n    vertex -4 0 65536\n  endfacet\n" + facet("-4 0 65536") + "endsolid\n",
		},
	} {
		if got, e := Print(q.m); got != q.want || e != api.OK {
			t.Errorf("Print(%v) = %q, %d; want %q", q.m, got, e, q.want)
		}
	}
	for want, m := range invalid() {
		if got, e := Print(m); got != "" || e != want {
			t.Errorf("Print of an invalid mesh: %d bytes, error %d; want %d", len(got), e, want)
		}
	}
}

// P8.1: the limit. With 936 facets of 70 bytes, one byte is left: that of one digit more in one number.
func TestPrintAtTheLimit(t *testing.T) {
	full := repeated(936, api.Vec{})
	full.Verts = append(full.Verts, api.Vec{X: 7}, api.Vec{Z: -7}, api.Vec{Y: 123})
	full.Tris[500].B = 1
	if text, e := Print(full); len(text) != api.MaxText-1 || e != api.OK {
		t.Fatalf("Print of the longest text but one: %d bytes, error %d", len(text), e)
	}
	full.Tris[935].C = 2
	text, e := Print(full)
	if len(text) != api.MaxText || e != api.OK {
		t.Fatalf("Print of the longest text: %d bytes, error %d", len(text), e)
	}
	if m, line, e := Parse(text); !mesh.Same(m, unshared(full)) || line != 0 || e != api.OK {
		t.Errorf("Parse of the longest text: line %d, error %d", line, e)
	}
	full.Tris[935].C = 3
	if text, e := Print(full); text != "" || e != api.ErrLimit {
		t.Errorf("Print of one byte more: %d bytes, error %d", len(text), e)
	}
	if text, e := Print(repeated(api.MaxTris, api.Vec{})); text != "" || e != api.ErrLimit {
		t.Errorf("Print of the largest mesh: %d bytes, error %d", len(text), e)
	}
}

// P8.2: texts of meshes, with spaces, tabs and empty lines.
func TestParse(t *testing.T) {
	one := api.Mesh{Verts: []api.Vec{{X: 1, Y: 2, Z: 3}, {X: -4, Y: 0, Z: 65536}, {X: 1, Y: 2, Z: 3}}, Tris: []api.Tri{{A: 0, B: 1, C: 2}}}
	for _, q := range []struct {
		s    string
		want api.Mesh
	}{
		{"solid\nendsolid\n", api.Mesh{}},
		{"solid\nendsolid", api.Mesh{}},
		{" \t\n\nsolid\t \n \n\tendsolid \n\n \t", api.Mesh{}},
		{"solid\nfacet\nvertex 1 2 3\nvertex -4 0 65536\nvertex 1 2 3\nendfacet\nendsolid", one},
		{"solid\n\nfacet\n \nvertex\t1 \t2\t\t3\t\n\nvertex -4  0 65536\nvertex 1 2 3 \n\nendfacet\n\nendsolid\n\n", one},
		{"solid\n" + facet("5 6 7") + facet("-65536 65536 0") + "endsolid\n", api.Mesh{
			Verts: []api.Vec{{X: 5, Y: 6, Z: 7}, {X: 5, Y: 6, Z: 7}, {X: 5, Y: 6, Z: 7}, {X: -edge, Y: edge}, {X: -edge, Y: edge}, {X: -edge, Y: edge}},
			Tris:  []api.Tri{{A: 0, B: 1, C: 2}, {A: 3, B: 4, C: 5}},
		}},
	} {
		if got, line, e := Parse(q.s); !mesh.Same(got, q.want) || line != 0 || e != api.OK {
			t.Errorf("Parse(%q) = %v, %d, %d; want %v", q.s, got, line, e, q.want)
		}
	}
}

// checkFailure checks that Parse returns this error, and nothing of the mesh.
func checkFailure(t *testing.T, s string, wantLine int, want api.Errno) {
	t.Helper()
	if got, line, e := Parse(s); !mesh.Same(got, api.Mesh{}) || line != wantLine || e != want {
		t.Errorf("Parse(%.200q) = %v, %d, %d; want %d, %d", s, got, line, e, wantLine, want)
	}
}

// P8.2: wrong words.
func TestParseSyntaxErrors(t *testing.T) {
	const head = "solid\nfacet\nvertex 1 2 3\nvertex 4 5 6\nvertex 7 8 9\n"
	for _, q := range []struct {
		s    string
		line int
	}{
		{"solid\nfacet\nvertex 1 2", 3},
		{"endsolid", 1}, {"facet", 1}, {"\n\nvertex 1 2 3", 3}, {"solid x", 1}, {"Solid", 1}, {"solid\r\nendsolid\r\n", 1}, {"solid solid", 1}, {"\x00", 1}, {"\xff", 1},
		{"solid\nsolid", 2}, {"solid\nvertex 1 2 3", 2}, {"solid\nendfacet", 2}, {"solid\nfacet facet", 2}, {"solid\nendsolid x", 2}, {"solid\nfacets", 2}, {"solid\n\u00a0", 2}, {"solid\n\v", 2}, {"solid\nend solid", 2},
		{"solid\nfacet\nendfacet", 3}, {"solid\nfacet\nfacet", 3}, {"solid\nfacet\nendsolid", 3}, {"solid\nfacet\nvertex", 3}, {"solid\nfacet\nvertex 1 2 3 4", 3}, {"solid\nfacet\nvertex\n1 2 3", 3},
		{"solid\nfacet\nVertex 1 2 3", 3}, {"solid\nfacet\nvertex 1 2 x", 3}, {"solid\nfacet\nvertex +1 2 3", 3}, {"solid\nfacet\nvertex 1 02 3", 3}, {"solid\nfacet\nvertex 1 2 -0", 3}, {"solid\nfacet\nvertex 1 - 3", 3},
		{"solid\nfacet\nvertex 1 2 3.0", 3}, {"solid\nfacet\nvertex 1,2,3", 3}, {"solid\nfacet\nvertex 1 2 3\r", 3}, {"solid\nfacet\n\n\nvertex 1 2", 5},
		{"solid\nfacet\nvertex 1 2 3\nendfacet", 4}, {"solid\nfacet\nvertex 1 2 3\nvertex 1 2 3\nendfacet", 5}, {"solid\nfacet\nvertex 1 2 3\nvertex 1 2 3\nvertex 1 2", 5},
		{head + "vertex 1 2 3", 6}, {head + "endfacet x", 6}, {head + "endsolid", 6}, {head + "facet", 6}, {head + "endfacet\nvertex 1 2 3", 7}, {head + "endfacet\nsolid", 7},
		{head + "endfacet\nfacet\nendfacet", 8}, {head + "endfacet\nendfacet", 7},
		{"solid\nendsolid\nsolid", 3}, {"solid\nendsolid\n\n \nendsolid\nx", 5}, {"solid\nendsolid\nfacet", 3}, {"solid\nendsolid\n\r", 3},
		// The words of a line come before its range, and a line before the ones behind it.
		{"solid\nfacet\nvertex 65537 2 x", 3}, {"solid\nfacet\nvertex 99999999999999999999 2 -0", 3}, {"solid\nfacet\nvertex 65537 2", 3}, {"solid\nfacet\nvertex 65537 2 3 4", 3}, {"solid\nfacet\nvertexes 65537 2 3", 3},
		{"solid\nfacets\nvertex 65537 2 3", 2},
	} {
		checkFailure(t, q.s, q.line, api.ErrSyntax)
	}
}

// P8.2: numbers that are too large.
func TestParseRangeErrors(t *testing.T) {
	huge := strings.Repeat("9", 400)
	for _, n := range []string{"65537", "-65537", "9223372036854775807", "-9223372036854775808", "9223372036854775808", "-9223372036854775809", huge, "-" + huge} {
		for _, v := range []string{n + " 0 0", "0 " + n + " 0", "0 0 " + n, n + " " + n + " " + n} {
			checkFailure(t, "solid\nfacet\nvertex "+v+"\n", 3, api.ErrRange)
			checkFailure(t, "solid\n"+facet("1 2 3")+"\nfacet\nvertex 1 2 3\n\nvertex "+v+"\nx", 11, api.ErrRange)
		}
	}
	for _, n := range []string{"65536", "-65536"} {
		for _, v := range []string{n + " 0 0", "0 " + n + " 0", "0 0 " + n} {
			if _, line, e := Parse("solid\n" + facet(v) + "endsolid"); line != 0 || e != api.OK {
				t.Errorf("Parse of a vertex at the bound: %d, %d", line, e)
			}
		}
	}
}

// P8.2: texts that end too early, after each of their lines.
func TestParseTruncated(t *testing.T) {
	checkFailure(t, "", 0, api.ErrTruncated)
	checkFailure(t, "\n", 1, api.ErrTruncated)
	checkFailure(t, " ", 1, api.ErrTruncated)
	checkFailure(t, "\n\n \n", 3, api.ErrTruncated)
	checkFailure(t, "\n\n ", 3, api.ErrTruncated)
	checkFailure(t, "solid", 1, api.ErrTruncated)
	checkFailure(t, "solid\n", 1, api.ErrTruncated)
	checkFailure(t, "solid\n\n", 2, api.ErrTruncated)
	all := strings.SplitAfter("solid\n"+facet("1 2 3")+facet("4 5 6"), "\n")
	all = all[:len(all)-1]
	for n := range len(all) + 1 {
		text := strings.Join(all[:n], "")
		checkFailure(t, text, n, api.ErrTruncated)
		checkFailure(t, strings.TrimSuffix(text, "\n"), n, api.ErrTruncated)
		checkFailure(t, text+" \n\t", n+2, api.ErrTruncated)
	}
}

// P8.2: the limit comes before all other errors, and is reached by empty lines, too.
func TestParseLimit(t *testing.T) {
	const text = "solid\nendsolid\n"
	for _, filler := range []string{" ", "\n", "\t"} {
		fill := strings.Repeat(filler, api.MaxText-len(text))
		if m, line, e := Parse(text + fill); !mesh.Same(m, api.Mesh{}) || line != 0 || e != api.OK {
			t.Errorf("Parse of the longest text: %d, %d", line, e)
		}
		checkFailure(t, text+fill+filler, 0, api.ErrLimit)
	}
	checkFailure(t, strings.Repeat("x", api.MaxText+1), 0, api.ErrLimit)
	checkFailure(t, strings.Repeat("x", api.MaxText), 1, api.ErrSyntax)
	checkFailure(t, strings.Repeat("\n", api.MaxText), api.MaxText, api.ErrTruncated)
	// The most triangles that a text can have.
	most := strings.Repeat("facet\n"+strings.Repeat("vertex 0 0 0\n", 3)+"endfacet\n", 1213)
	if m, line, e := Parse("solid\n" + most + "endsolid"); !mesh.Same(m, unshared(repeated(1213, api.Vec{}))) || line != 0 || e != api.OK {
		t.Errorf("Parse of 1213 triangles: %d triangles, %d, %d", len(m.Tris), line, e)
	}
}

// What comes next in a text.
const (
	start = iota
	outside
	first
	second
	third
	closing
	end
)

// reference reads a text as the chapter tells it, line by line.
func reference(s string) (api.Mesh, int, api.Errno) {
	if len(s) > api.MaxText {
		return api.Mesh{}, 0, api.ErrLimit
	}
	var m api.Mesh
	state, count := start, 0
	for text := s; text != ""; {
		line, rest, _ := strings.Cut(text, "\n")
		text = rest
		count++
		words := strings.Split(strings.ReplaceAll(line, "\t", " "), " ")
		words = slices.DeleteFunc(words, func(word string) bool { return word == "" })
		joined := strings.Join(words, " ")
		switch {
		case joined == "":
		case state == start && joined == "solid":
			state = outside
		case state == outside && joined == "facet":
			state = first
		case state == outside && joined == "endsolid":
			state = end
		case state == closing && joined == "endfacet":
			state = outside
			n := len(m.Verts)
			m.Tris = append(m.Tris, api.Tri{A: n - 3, B: n - 2, C: n - 1})
		case first <= state && state <= third && len(words) == 4 && words[0] == "vertex":
			v, e := referenceVertex(words[1:])
			if e != api.OK {
				return api.Mesh{}, count, e
			}
			m.Verts = append(m.Verts, v)
			state++
		default:
			return api.Mesh{}, count, api.ErrSyntax
		}
	}
	if state != end {
		return api.Mesh{}, count, api.ErrTruncated
	}
	return m, 0, api.OK
}

func referenceVertex(words []string) (api.Vec, api.Errno) {
	var n [3]int
	worst := api.OK
	for i, word := range words {
		value, e := num.Parse(word)
		n[i] = value
		switch {
		case e == api.ErrSyntax:
			return api.Vec{}, e
		case e == api.ErrOverflow || max(value, -value) > edge || value == math.MinInt:
			worst = api.ErrRange
		}
	}
	if worst != api.OK {
		return api.Vec{}, worst
	}
	return api.Vec{X: n[0], Y: n[1], Z: n[2]}, api.OK
}

// checkReference compares Parse with the reference.
func checkReference(t *testing.T, s string) {
	t.Helper()
	want, wantLine, wantE := reference(s)
	if got, line, e := Parse(s); !mesh.Same(got, want) || line != wantLine || e != wantE {
		t.Errorf("Parse(%q) = %v, %d, %d; want %v, %d, %d", s, got, line, e, want, wantLine, wantE)
	}
}

// P8.2: texts with random lines.
func TestParseRandomTexts(t *testing.T) {
	random := rand.New(rand.NewSource(11))
	pieces := []string{"solid", "facet", "endfacet", "endsolid", "vertex 1 2 3", "vertex -1 65536 7", "", " ", "\tvertex 5  6\t7 ", "vertex 1 2 70000", "vertex 1 2 -0", "x", "vertex 1 2"}
	for range 20000 {
		l := strings.Split("solid\n"+facet("1 2 3")+facet("4 5 6")+"endsolid\n", "\n")
		for range random.Intn(3) {
			i := random.Intn(len(l))
			switch random.Intn(3) {
			case 0:
				l[i] = pieces[random.Intn(len(pieces))]
			case 1:
				l = slices.Insert(l, i, pieces[random.Intn(len(pieces))])
			case 2:
				l = slices.Delete(l, i, i+1)
			}
		}
		s := strings.Join(l, "\n")
		checkReference(t, s[:len(s)-random.Intn(2)*random.Intn(len(s)+1)])
	}
}

// randomMesh returns a valid mesh with fewer than 30 triangles of any kind.
func randomMesh(random *rand.Rand) api.Mesh {
	m := api.Mesh{Verts: make([]api.Vec, 1+random.Intn(9)), Tris: make([]api.Tri, random.Intn(30))}
	most := [2]int{5, edge}[random.Intn(2)]
	coordinate := func() int { return random.Intn(2*most+1) - most }
	for i := range m.Verts {
		m.Verts[i] = api.Vec{X: coordinate(), Y: coordinate(), Z: coordinate()}
	}
	for i := range m.Tris {
		m.Tris[i] = api.Tri{A: random.Intn(len(m.Verts)), B: random.Intn(len(m.Verts)), C: random.Intn(len(m.Verts))}
	}
	return m
}

// P8.3, P8.7: meshes come back from their texts and bytes, with the same corners.
func TestRestored(t *testing.T) {
	random := rand.New(rand.NewSource(12))
	for range 500 {
		m := randomMesh(random)
		given := clone(m)
		text, e := Print(m)
		parsed, line, e2 := Parse(text)
		if e != api.OK || line != 0 || e2 != api.OK || !mesh.Same(parsed, unshared(m)) {
			t.Errorf("Parse(Print(%v)) = %v, %d, %d, %d", m, parsed, line, e, e2)
		}
		code, e := Pack(m)
		unpacked, e2 := Unpack(code)
		if e != api.OK || e2 != api.OK || !mesh.Same(unpacked, parsed) {
			t.Errorf("Unpack(Pack(%v)) = %v, %d, %d", m, unpacked, e, e2)
		}
		if again, e := Pack(unpacked); again != code || e != api.OK {
			t.Errorf("Pack(Unpack(%q)) = %q, %d", code, again, e)
		}
		if !mesh.Same(m, given) {
			t.Errorf("%v has been changed", given)
		}
	}
}

// P8.4: the text of a parsed mesh gives the mesh again, and spaces, tabs and empty lines do not matter.
func TestCanonical(t *testing.T) {
	random := rand.New(rand.NewSource(13))
	blanks := []string{" ", "\t", "  ", " \t", "\t\t\t"}
	blank := func() string { return blanks[random.Intn(len(blanks))] }
	for range 300 {
		m := unshared(randomMesh(random))
		text, _ := Print(m)
		var loose strings.Builder
		for line := range strings.Lines(text) {
			loose.WriteString(strings.Repeat(blank()+"\n", random.Intn(2)))
			for _, word := range strings.Fields(line) {
				loose.WriteString(blank() + word + blank())
			}
			loose.WriteString("\n")
		}
		got, line, e := Parse(strings.TrimSuffix(loose.String(), "\n"))
		if !mesh.Same(got, m) || line != 0 || e != api.OK {
			t.Errorf("Parse(%q) = %v, %d, %d; want %v", loose.String(), got, line, e, m)
		}
		if again, e := Print(got); again != text || e != api.OK {
			t.Errorf("Print(%v) = %q, %d; want %q", got, again, e, text)
		}
	}
	// The text of a quarter of the limit that becomes longest: 303 facets with no blank that could be left out.
	tight := "solid\n" + strings.Repeat("facet\n"+strings.Repeat("vertex 0 0 0\n", 3)+"endfacet\n", 303) + "endsolid"
	m, line, e := Parse(tight)
	if len(tight) > api.MaxText/4 || line != 0 || e != api.OK {
		t.Fatalf("Parse of %d bytes: %d, %d", len(tight), line, e)
	}
	text, e := Print(m)
	if again, _, e2 := Parse(text); e != api.OK || e2 != api.OK || !mesh.Same(again, m) {
		t.Errorf("Print and Parse of 303 triangles: %d, %d", e, e2)
	}
}

// packed returns 4 bytes with the number n.
func packed(n int) string {
	return string([]byte{byte(n >> 24), byte(n >> 16), byte(n >> 8), byte(n)})
}

// P8.5.
func TestPack(t *testing.T) {
	m := api.Mesh{
		Verts: []api.Vec{{X: 1, Y: -2, Z: 258}, {X: edge, Y: -edge, Z: 0}, {X: 7, Y: 8, Z: 9}},
		Tris:  []api.Tri{{A: 1, B: 0, C: 2}},
	}
	want := "\x00\x00\x00\x01" +
		"\x00\x01\x00\x00\xff\xff\x00\x00\x00\x00\x00\x00" +
		"\x00\x00\x00\x01\xff\xff\xff\xfe\x00\x00\x01\x02" +
		"\x00\x00\x00\x07\x00\x00\x00\x08\x00\x00\x00\x09"
	if got, e := Pack(m); got != want || e != api.OK || len(got) != 40 {
		t.Errorf("Pack = %q, %d; want %q", got, e, want)
	}
	for _, m := range []api.Mesh{{}, {Verts: []api.Vec{{X: 3}}}} {
		if got, e := Pack(m); got != "\x00\x00\x00\x00" || e != api.OK {
			t.Errorf("Pack of a mesh without triangles = %q, %d", got, e)
		}
	}
	if got, e := Pack(repeated(1365, api.Vec{X: 1})); len(got) != 4+36*1365 || e != api.OK || got[:4] != packed(1365) {
		t.Errorf("Pack of 1365 triangles: %d bytes, error %d", len(got), e)
	}
	for _, n := range []int{1366, api.MaxTris} {
		if got, e := Pack(repeated(n, api.Vec{X: 1})); got != "" || e != api.ErrLimit {
			t.Errorf("Pack of %d triangles: %d bytes, error %d", n, len(got), e)
		}
	}
	for want, m := range invalid() {
		if got, e := Pack(m); got != "" || e != want {
			t.Errorf("Pack of an invalid mesh: %d bytes, error %d; want %d", len(got), e, want)
		}
	}
}

// P8.6.
func TestUnpack(t *testing.T) {
	m := unshared(tetrahedron())
	code, _ := Pack(tetrahedron())
	if got, e := Unpack(code); !mesh.Same(got, m) || e != api.OK {
		t.Errorf("Unpack of a tetrahedron = %v, %d; want %v", got, e, m)
	}
	if got, e := Unpack("\x00\x00\x00\x00"); !mesh.Same(got, api.Mesh{}) || e != api.OK {
		t.Errorf("Unpack of a mesh without triangles = %v, %d", got, e)
	}
	full, _ := Pack(repeated(1365, api.Vec{X: 1}))
	if got, e := Unpack(full); !mesh.Same(got, unshared(repeated(1365, api.Vec{X: 1}))) || e != api.OK {
		t.Errorf("Unpack of 1365 triangles: %d triangles, error %d", len(got.Tris), e)
	}
}

// P8.6: the errors, and their order.
func TestUnpackErrors(t *testing.T) {
	fails := func(s string, want api.Errno) {
		t.Helper()
		if got, e := Unpack(s); !mesh.Same(got, api.Mesh{}) || e != want {
			t.Errorf("Unpack(%.80q) = %v, %d; want error %d", s, got, e, want)
		}
	}
	for n := range 4 {
		fails(strings.Repeat("\x00", n), api.ErrTruncated)
		fails(strings.Repeat("\xff", n), api.ErrTruncated)
	}
	for _, n := range []int{1366, 1367, 1 << 16, 1 << 24, 1<<31 - 1, 1 << 31, 1<<32 - 1} {
		fails(packed(n), api.ErrLimit)
		fails(packed(n)+strings.Repeat("\x00", 36*1366), api.ErrLimit)
		fails(packed(n)+strings.Repeat("\x00", 36*1367), api.ErrLimit)
	}
	zeros := strings.Repeat("\x00", 36*1365)
	for _, n := range []int{1, 2, 1365} {
		for short := 1; short <= 36; short++ {
			fails(packed(n)+zeros[:36*n-short], api.ErrTruncated)
		}
		fails(packed(n), api.ErrTruncated)
		fails(packed(n)+zeros[:36*n]+"\x00", api.ErrSyntax)
		fails(packed(n)+zeros[:36*n]+zeros[:36], api.ErrSyntax)
	}
	fails("\x00\x00\x00\x00\x00", api.ErrSyntax)
	for _, n := range []int{edge + 1, -edge - 1, math.MaxInt32, math.MinInt32} {
		for i := range 18 {
			code := packed(2) + zeros[:4*i] + packed(n) + zeros[:72-4*i-4]
			fails(code, api.ErrRange)
			fails(code+"\x00", api.ErrSyntax)
			fails(code[:len(code)-1], api.ErrTruncated)
		}
	}
	for _, n := range []int{edge, -edge} {
		for i := range 9 {
			code := packed(1) + zeros[:4*i] + packed(n) + zeros[:36-4*i-4]
			m, e := Unpack(code)
			if back, _ := Pack(m); back != code || e != api.OK {
				t.Errorf("Unpack of the coordinate %d: error %d", n, e)
			}
		}
	}
}

func FuzzParse(f *testing.F) {
	text, _ := Print(tetrahedron())
	for _, s := range []string{"", "solid\nendsolid\n", text, "solid\nfacet\nvertex 1 2", "solid\nfacet\nvertex 1 2 " + strconv.Itoa(math.MinInt)} {
		f.Add(s)
	}
	f.Fuzz(func(t *testing.T, s string) {
		m, line, e := Parse(s)
		if e != api.OK {
			if !mesh.Same(m, api.Mesh{}) || line < 0 || line > strings.Count(s, "\n")+1 {
				t.Errorf("Parse(%q) = %v, %d, %d", s, m, line, e)
			}
			return
		}
		if line != 0 || mesh.Check(m) != api.OK || len(m.Verts) != 3*len(m.Tris) {
			t.Errorf("Parse(%q) = %v, %d", s, m, line)
		}
		if text, e := Print(m); e == api.OK {
			if again, _, e := Parse(text); !mesh.Same(again, m) || e != api.OK {
				t.Errorf("Parse(%q) = %v, %d", text, again, e)
			}
		}
	})
}

func FuzzUnpack(f *testing.F) {
	code, _ := Pack(tetrahedron())
	f.Add(code)
	f.Add("\x00\x00\x00\x00")
	f.Fuzz(func(t *testing.T, s string) {
		m, e := Unpack(s)
		if e != api.OK && !mesh.Same(m, api.Mesh{}) {
			t.Errorf("Unpack(%q) = %v, %d", s, m, e)
		}
		if back, e2 := Pack(m); e == api.OK && (back != s || e2 != api.OK) {
			t.Errorf("Pack(Unpack(%q)) = %q, %d", s, back, e2)
		}
	})
}
