package load_test

// This file looks at the project's own code: whether each layer imports, and keeps, only what it may.

import (
	"go/ast"
	"go/parser"
	"go/token"
	"path/filepath"
	"slices"
	"strconv"
	"strings"
	"testing"
)

const mostLines = 60

// library is what may be imported beside the project's own packages.
var library = strings.Fields("bytes cmp container/heap errors iter maps math math/bits slices sort strconv strings sync sync/atomic unicode unicode/utf8")

// below is which layers each layer may call; all may use the types of api.
var below = map[string]string{
	"nums": "", "insns": "nums", "lines": "insns nums", "progs": "insns nums", "alu": "nums", "conds": "nums", "memory": "nums", "maps": "nums memory", "helpers": "memory maps",
	"interp": "insns progs alu conds helpers", "codec": "nums", "cpu": "alu codec", "machine": "nums memory helpers codec cpu", "spec": "memory helpers codec cpu machine",
	"tnums": "", "spans": "", "scalars": "alu conds tnums spans", "kinds": "scalars", "slots": "scalars kinds", "frames": "kinds slots", "steps": "insns progs scalars kinds slots frames", "paths": "progs frames steps",
	"harden": "progs", "emit": "insns progs codec cpu machine", "jit": "progs codec emit", "load": "progs memory maps paths harden jit", "runs": "helpers interp machine spec load", "corpus": "", "sessions": "helpers maps load runs",
	"objects": "nums progs load", "charts": "insns progs", "leaks": "spec load runs", "api": "",
}

// each goes through all files of the layers that are no tests.
func each(t *testing.T, look func(layer, file string, set *token.FileSet, a *ast.File)) {
	t.Helper()
	for layer := range below {
		files, err := filepath.Glob(filepath.Join("..", layer, "*.go"))
		if err != nil || len(files) == 0 {
			t.Fatal(layer, err, len(files))
		}
		for _, file := range files {
			if strings.HasSuffix(file, "_test.go") {
				continue
			}
			set := token.NewFileSet()
			a, err := parser.ParseFile(set, file, nil, parser.ParseComments)
			if err != nil {
				t.Fatal(err)
			}
			look(layer, file, set, a)
		}
	}
}

func TestRuleImports(t *testing.T) {
	each(t, func(layer, file string, _ *token.FileSet, a *ast.File) {
		for _, i := range a.Imports {
			path, _ := strconv.Unquote(i.Path.Value)
			own, ours := strings.CutPrefix(path, "firewall/")
			if i.Name != nil || ours && own != "api" && !slices.Contains(strings.Fields(below[layer]), own) || !ours && !slices.Contains(library, path) {
				t.Errorf("%s imports %s", file, path)
			}
		}
	})
}

// TestRulePackageLevel: what stands there is constants, types, functions, and tables that are written out.
func TestRulePackageLevel(t *testing.T) {
	each(t, func(_, file string, _ *token.FileSet, a *ast.File) {
		for _, d := range a.Decls {
			g, ok := d.(*ast.GenDecl)
			if !ok || g.Tok != token.VAR {
				continue
			}
			for _, s := range g.Specs {
				v := s.(*ast.ValueSpec)
				table := len(v.Names) == 1 && len(v.Values) == 1
				if table {
					var l *ast.CompositeLit
					if l, table = v.Values[0].(*ast.CompositeLit); table {
						_, table = l.Type.(*ast.ArrayType)
					}
				}
				if !table {
					t.Errorf("%s keeps %s", file, v.Names[0].Name)
				}
			}
		}
	})
}

func TestRuleFunctions(t *testing.T) {
	each(t, func(_, file string, set *token.FileSet, a *ast.File) {
		for _, c := range a.Comments {
			for _, l := range c.List {
				if strings.HasPrefix(l.Text, "//go:") || strings.HasPrefix(l.Text, "// +build") {
					t.Errorf("%s has %s", file, l.Text)
				}
			}
		}
		for _, d := range a.Decls {
			f, ok := d.(*ast.FuncDecl)
			if !ok {
				continue
			}
			if n := set.Position(f.End()).Line - set.Position(f.Pos()).Line + 1; n > mostLines {
				t.Errorf("%s: %s has %d lines", file, f.Name.Name, n)
			}
			if f.Recv == nil && f.Name.Name == "init" {
				t.Errorf("%s has an init", file)
			}
		}
		ast.Inspect(a, func(n ast.Node) bool {
			switch x := n.(type) {
			case *ast.GoStmt, *ast.ChanType:
				t.Errorf("%s has goroutines, or channels", file)
			case *ast.MapType:
				if v, ok := x.Value.(*ast.Ident); ok && (v.Name == "bool" || v.Name == "string") {
					t.Errorf("%s has a map of %s", file, v.Name)
				}
			}
			return true
		})
	})
}
