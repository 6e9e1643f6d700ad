// Package rules has only tests: that the program's sources keep to the rules of its language, and use the features that the document's section 'Ways' names.
package rules

import (
	"go/ast"
	"go/parser"
	"go/token"
	"io/fs"
	"os"
	"path/filepath"
	"strconv"
	"strings"
	"testing"
)

const root = ".."

// landed is the number of packages that are built.
const landed = 54

// ways has the features that each package uses, as the document's section 'Ways' names them.
var ways = [][2]string{
	{"text", "range-string"},
	{"codec", "panic recover defer"},
	{"money", "variadic"},
	{"clock", "array"},
	{"span", "variadic"},
	{"match", "label"},
	{"graph", "closure"},
	{"digest", "range-integer"},
	{"device", "generic-function"},
	{"plate", "map"},
	{"tag", "range-string"},
	{"class", "array"},
	{"detect", "fallthrough"},
	{"group", "range-function"},
	{"score", "closure"},
	{"fuse", "embedding promoted"},
	{"passage", "map"},
	{"topology", "fallthrough"},
	{"chain", "label"},
	{"infer", "copy"},
	{"trip", "iota"},
	{"tariff", "struct-compared"},
	{"occupancy", "range-integer"},
	{"discount", "closure"},
	{"cap", "generic-type"},
	{"zone", "range-function"},
	{"session", "fallthrough"},
	{"parkfee", "method-value"},
	{"permit", "generic-function"},
	{"stay", "map"},
	{"price", "variadic"},
	{"ledger", "map"},
	{"account", "copy"},
	{"bill", "method-value"},
	{"refill", "iota"},
	{"dispute", "generic-function"},
	{"post", "embedding promoted"},
	{"notice", "fallthrough"},
	{"appeal", "array"},
	{"retain", "map"},
	{"evidence", "copy"},
	{"agency", "panic recover defer"},
	{"exchange", "struct-compared"},
	{"recon", "label"},
	{"relief", "array"},
	{"event", "panic recover defer"},
	{"batch", "method-value"},
	{"engine", "fallthrough"},
	{"store", "panic recover defer"},
	{"audit", "map"},
	{"report", "variadic"},
	{"trace", "closure"},
	{"scenario", "range-string"},
	{"check", "embedding promoted"},
}

func TestWays(t *testing.T) {
	for _, x := range ways[:landed] {
		miss, err := WaysMissing(root, "tollway", []string{x[0]}, strings.Fields(x[1]))
		if err != nil {
			t.Fatal(x[0], err)
		}
		for _, m := range miss {
			t.Error(x[0], "does not use", m)
		}
	}
}

const library = " bytes cmp container/heap errors iter maps math math/bits slices sort strconv strings sync sync/atomic unicode unicode/utf8 "

// sources returns the program's Go files that are not tests.
func sources(t *testing.T) []string {
	var l []string
	err := filepath.WalkDir(root, func(path string, d fs.DirEntry, err error) error {
		if err != nil {
			return err
		}
		if d.IsDir() && (d.Name() == "sharedtests" || d.Name() == ".git" || d.Name() == "api") {
			return fs.SkipDir
		}
		if strings.HasSuffix(path, ".go") && !strings.HasSuffix(path, "_test.go") {
			l = append(l, path)
		}
		return nil
	})
	if err != nil || len(l) < 54 {
		t.Fatal(len(l), err)
	}
	return l
}

func TestLanguage(t *testing.T) {
	for _, path := range sources(t) {
		b, err := os.ReadFile(path)
		if err != nil {
			t.Fatal(err)
		}
		if strings.Contains(string(b), "//go:") {
			t.Error(path, "has a directive")
		}
		files := token.NewFileSet()
		f, err := parser.ParseFile(files, path, b, parser.ParseComments)
		if err != nil {
			t.Fatal(err)
		}
		for _, i := range f.Imports {
			name, _ := strconv.Unquote(i.Path.Value)
			if !strings.HasPrefix(name, "tollway/") && !strings.Contains(library, " "+name+" ") {
				t.Error(path, "imports", name)
			}
		}
		for _, d := range f.Decls {
			look(t, files, d)
		}
	}
}

// look reports what a declaration at the package level must not be or contain.
func look(t *testing.T, files *token.FileSet, d ast.Decl) {
	at := files.Position(d.Pos())
	switch x := d.(type) {
	case *ast.FuncDecl:
		if n := files.Position(x.End()).Line - at.Line + 1; n > 60 {
			t.Error(at, x.Name.Name, "has lines:", n)
		}
		if x.Name.Name == "init" && x.Recv == nil {
			t.Error(at, "init")
		}
	case *ast.GenDecl:
		for _, s := range x.Specs {
			v, ok := s.(*ast.ValueSpec)
			if !ok || x.Tok != token.VAR {
				continue
			}
			for _, e := range v.Values {
				if _, ok := e.(*ast.CompositeLit); !ok {
					t.Error(at, "a variable at the package level that is no table")
				}
			}
			if len(v.Values) == 0 {
				t.Error(at, "a variable at the package level without a value")
			}
		}
	}
	ast.Inspect(d, func(n ast.Node) bool {
		switch n.(type) {
		case *ast.GoStmt, *ast.ChanType, *ast.SelectStmt:
			t.Error(files.Position(n.Pos()), "a goroutine or a channel")
		}
		return true
	})
}
