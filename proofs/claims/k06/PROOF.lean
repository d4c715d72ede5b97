import PyProof.Rows.All
import Wide.All
import OpenK.AllK
import Wide.FinOn
import HandS.ForMost
import HandS.AnyAll
import HandS.Nested
import HandS.GenList
import HandS.Exc
import HandS.ExcOwn
import HandS.ExcCtx
import HandS.HotCalls
import HandS.ExcIs
import HandS.ExcField
import HandS.ExcInit
import HandS.TryMany
import HandS.TryOnly
import HandS.Zip
import HandS.StrSplit
import HandS.MapSum
import HandS.Deep
import HandS.IsInst
import HandS.TupAny
import HandS.TupMul
import HandS.Wide
import HandS.Replace
import HandS.Strs
import HandS.Style
import KE.SortData
import KE.KDictPairs
import HandS.HeadHook4
import HandS.HeadWalk
import HandS.TupLe
import HandS.Conv
import HandS.More
import HandS.Iter
import HandS.Dict
import KE.KDictCopyH
import KE.KDictWalk
import HandS.DictComp
import PyProof.CollectWalk
import HandS.ListItems
import KE.DatumOrd
import HandS.Comp
import HandS.SetKeys
import KE.GoesEnum
import HandS.SetFor
import PyProof.AutoSeq1
import KE.DataCmp
import KE.KExcIs
import HandS.HeadHook1
import HandS.Flow
import KE.KItemsList
import HandS.Head2
import HandS.HeadEnd
import KE.KStateDown
import Lean
import PySem.Challenge.RW_weave_k06_stocks_as_texts
set_option Elab.async false
set_option linter.all false
set_option maxRecDepth 100000
set_option maxHeartbeats 4000000
namespace Sh
open PySem PySem.Spec PyProof.Rows L2 NdefX
def oexB (K : PySem.W.Frag) (C : Addr) : Bool := (match K.lookup C with
 | some ⟨.type "type", _, .cls cd, sl⟩ => (match cd.mro, sl.toList with
  | .ref C' :: bm, [_, _, _, _, some (.builtin n), _] => decide (C' = C) && (decide (n = "ValueError.__new__") && (!cd.hasDel && (cd.hasDict && PySem.HandSPX.refsVE bm)))
  | _, _ => false)
 | _ => false) && (decide (PySem.W.findIn K (.ref C) "__setattr__" = some (some (.builtin "object.__setattr__"))) && (decide (PySem.W.subIn K (.ref C) (.type "BaseException") = some true) && (decide (PySem.W.typeIn K (.ref C) = some (.type "type")) && PySem.W.keepIn K (.ref C))))
def excIB (K : PySem.W.Frag) (D : Addr) : Bool := (PySem.W.clsIn K D).isSome && (decide (PySem.W.findIn K (.ref D) "__getattribute__" = some (some (.builtin "BaseException.__getattribute__"))) && (decide (PySem.W.findIn K (.ref D) "__getattr__" = some none) && (decide (PySem.W.subIn K (.ref D) (.type "BaseException") = some true) &&
 (decide (PySem.W.findIn K (.ref D) "__class__" = some (some (.builtin "object.__class__"))) && (decide (PySem.W.specialIn K (.builtin "object.__class__") "__get__" = some (some (.builtin "getset_descriptor.__get__"))) && (decide (PySem.W.takesIn K (.builtin "object.__class__") = some true) && (decide (PySem.W.mroIn K D (.type "object") = some true) && PySem.W.hasDictIn K D)))))))
def cvOf (K : PySem.W.Frag) (c : Str) : Value := if c = ("ValueError" : Str) then .type "ValueError" else .ref (He.ga K c)
def kits (K : PySem.W.Frag) (D : Addr) (ns : List Str) : List (Option Bool) := ns.map fun c => PySem.W.kitOne K (.ref D) (cvOf K c)
abbrev KbT := List (Str × List Bool × List Bool × List Bool)
def kbB (K : PySem.W.Frag) (t : KbT) (n1 n2 n3 : List Str) : Bool := t.all fun r => excIB K (He.ga K r.1) && (decide (kits K (He.ga K r.1) n1 = r.2.1.map some) && (decide (kits K (He.ga K r.1) n2 = r.2.2.1.map some) && (decide (kits K (He.ga K r.1) n3 = r.2.2.2.map some) && decide (r.2.1.length + r.2.2.1.length + r.2.2.2.length <= 100))))
def xfaB (K : PySem.W.Frag) (t : KbT) (fld : Str) : Bool := t.all fun r => xfB K (He.ga K r.1) && decide (PySem.W.findIn K (.ref (He.ga K r.1)) fld = some none)
abbrev CsT := List (Str × Bool)
def csB (K : PySem.W.Frag) (x : Str) (t : CsT) : Bool := t.all fun r => decide (PySem.W.exmOne K (.ref (He.ga K r.1)) (.ref (He.ga K x)) = some r.2)
def fldB (K : PySem.W.Frag) (c n : Str) : Bool := oexB K (He.ga K c) && (decide (PySem.W.findIn K (.ref (He.ga K c)) n = some none) && (decide (PySem.W.findIn K (.ref (He.ga K c)) "__init__" = some (some (.ref (He.ma K (He.ga K c) "__init__")))) && decide (PySem.W.typeIn K (.ref (He.ma K (He.ga K c) "__init__")) = some (.type "function"))))
def methS (st : Stmt) (k : Nat) : Stmt := match st with
 | .ClassDef _ _ _ b .. => b.getD k (.Pass ⟨0, 0, 0, 0⟩)
 | _ => .Pass ⟨0, 0, 0, 0⟩
end Sh
namespace K06
open PySem PySem.Spec PyProof.Rows L2 NdefX Sh
def cst_law_asked_0 : CsT := [("NoStock", false), ("NoText", true), ("Twice", false)]
def kbt_law_asked_0 : KbT := [("NoText", [true, false, false, false], [false, false, false, false], [false, true])]
def cst_law_asked_1 : CsT := [("NoStock", false), ("Twice", true)]
def kbt_law_asked_1 : KbT := [("Twice", [false, true, false, false], [false, false, false, false], [false, true])]
def cst_law_asked_2 : CsT := [("NoStock", true)]
def kbt_law_asked_2 : KbT := [("NoStock", [false, false, true, false], [false, false, false, false], [false, true])]
def topS (i : Nat) : Stmt := PySem.Challenge.pw_weave_k06_stocks_as_texts.main.body.getD i (.Pass ⟨0, 0, 0, 0⟩)
abbrev s_is_tuple : Stmt := topS 12
abbrev s_rises : Stmt := topS 13
abbrev s_is_spelled : Stmt := topS 14
abbrev s_is_name : Stmt := topS 20
abbrev s_is_spec : Stmt := topS 21
abbrev s_are_specs : Stmt := topS 22
abbrev s_is_entry : Stmt := topS 23
abbrev s_is_stock : Stmt := topS 24
abbrev s_show_spec : Stmt := topS 26
abbrev s_read_spec : Stmt := topS 27
abbrev s_show_kind : Stmt := topS 28
abbrev s_read_kind : Stmt := topS 29
abbrev s_read_stock : Stmt := topS 30
abbrev s_law_digits : Stmt := topS 32
abbrev s_law_take : Stmt := topS 33
abbrev s_law_words : Stmt := topS 34
abbrev s_law_stock : Stmt := topS 35
abbrev s_law_order : Stmt := topS 36
abbrev s_law_asked : Stmt := topS 38
abbrev s_law_text : Stmt := topS 39
abbrev s_law_bent_text : Stmt := topS 40
abbrev s_law_bent : Stmt := topS 41
abbrev s_law_name : Stmt := topS 42
abbrev s_law_row : Stmt := topS 43
abbrev s_law_due : Stmt := topS 44
abbrev s_law : Stmt := topS 45
abbrev s_law_kinds : Stmt := topS 37
abbrev s_NoText_init : Stmt := methS (topS 7) 0
abbrev s_Twice_init : Stmt := methS (topS 10) 0
def d_is_tuple : He.DefD := ⟨("is_tuple", none), "is_tuple", "is_tuple", defArgs s_is_tuple, defBody s_is_tuple, defScope s_is_tuple, [], []⟩
def d_rises : He.DefD := ⟨("rises", none), "rises", "rises", defArgs s_rises, defBody s_rises, defScope s_rises, [], []⟩
def d_is_spelled : He.DefD := ⟨("is_spelled", none), "is_spelled", "is_spelled", defArgs s_is_spelled, defBody s_is_spelled, defScope s_is_spelled, [], []⟩
def d_is_name : He.DefD := ⟨("is_name", none), "is_name", "is_name", defArgs s_is_name, defBody s_is_name, defScope s_is_name, [], []⟩
def d_is_spec : He.DefD := ⟨("is_spec", none), "is_spec", "is_spec", defArgs s_is_spec, defBody s_is_spec, defScope s_is_spec, [], []⟩
def d_are_specs : He.DefD := ⟨("are_specs", none), "are_specs", "are_specs", defArgs s_are_specs, defBody s_are_specs, defScope s_are_specs, [], []⟩
def d_is_entry : He.DefD := ⟨("is_entry", none), "is_entry", "is_entry", defArgs s_is_entry, defBody s_is_entry, defScope s_is_entry, [], []⟩
def d_is_stock : He.DefD := ⟨("is_stock", none), "is_stock", "is_stock", defArgs s_is_stock, defBody s_is_stock, defScope s_is_stock, [], []⟩
def d_show_spec : He.DefD := ⟨("show_spec", none), "show_spec", "show_spec", defArgs s_show_spec, defBody s_show_spec, defScope s_show_spec, [], []⟩
def d_read_spec : He.DefD := ⟨("read_spec", none), "read_spec", "read_spec", defArgs s_read_spec, defBody s_read_spec, defScope s_read_spec, [], []⟩
def d_show_kind : He.DefD := ⟨("show_kind", none), "show_kind", "show_kind", defArgs s_show_kind, defBody s_show_kind, defScope s_show_kind, [], []⟩
def d_read_kind : He.DefD := ⟨("read_kind", none), "read_kind", "read_kind", defArgs s_read_kind, defBody s_read_kind, defScope s_read_kind, [], []⟩
def d_read_stock : He.DefD := ⟨("read_stock", none), "read_stock", "read_stock", defArgs s_read_stock, defBody s_read_stock, defScope s_read_stock, [], []⟩
def d_law_digits : He.DefD := ⟨("_law_digits", none), "_law_digits", "_law_digits", defArgs s_law_digits, defBody s_law_digits, defScope s_law_digits, [], []⟩
def d_law_take : He.DefD := ⟨("_law_take", none), "_law_take", "_law_take", defArgs s_law_take, defBody s_law_take, defScope s_law_take, [], []⟩
def d_law_words : He.DefD := ⟨("_law_words", none), "_law_words", "_law_words", defArgs s_law_words, defBody s_law_words, defScope s_law_words, [], []⟩
def d_law_stock : He.DefD := ⟨("_law_stock", none), "_law_stock", "_law_stock", defArgs s_law_stock, defBody s_law_stock, defScope s_law_stock, [], []⟩
def d_law_order : He.DefD := ⟨("_law_order", none), "_law_order", "_law_order", defArgs s_law_order, defBody s_law_order, defScope s_law_order, [], []⟩
def d_law_asked : He.DefD := ⟨("_law_asked", none), "_law_asked", "_law_asked", defArgs s_law_asked, defBody s_law_asked, defScope s_law_asked, [], []⟩
def d_law_text : He.DefD := ⟨("_law_text", none), "_law_text", "_law_text", defArgs s_law_text, defBody s_law_text, defScope s_law_text, [], []⟩
def d_law_bent_text : He.DefD := ⟨("_law_bent_text", none), "_law_bent_text", "_law_bent_text", defArgs s_law_bent_text, defBody s_law_bent_text, defScope s_law_bent_text, [], []⟩
def d_law_bent : He.DefD := ⟨("_law_bent", none), "_law_bent", "_law_bent", defArgs s_law_bent, defBody s_law_bent, defScope s_law_bent, [], []⟩
def d_law_name : He.DefD := ⟨("_law_name", none), "_law_name", "_law_name", defArgs s_law_name, defBody s_law_name, defScope s_law_name, [], []⟩
def d_law_row : He.DefD := ⟨("_law_row", none), "_law_row", "_law_row", defArgs s_law_row, defBody s_law_row, defScope s_law_row, [], []⟩
def d_law_due : He.DefD := ⟨("_law_due", none), "_law_due", "_law_due", defArgs s_law_due, defBody s_law_due, defScope s_law_due, [], []⟩
def d_law : He.DefD := ⟨("law", none), "law", "law", defArgs s_law, defBody s_law, defScope s_law, [], []⟩
def d_law_kinds : He.DefD := ⟨("_law_kinds", none), "_law_kinds", "_law_kinds", defArgs s_law_kinds, defBody s_law_kinds, defScope s_law_kinds, [], []⟩
def d_NoText_init : He.DefD := ⟨("NoText", some "__init__"), "__init__", "NoText.__init__", defArgs s_NoText_init, defBody s_NoText_init, defScope s_NoText_init, [], []⟩
def d_Twice_init : He.DefD := ⟨("Twice", some "__init__"), "__init__", "Twice.__init__", defArgs s_Twice_init, defBody s_Twice_init, defScope s_Twice_init, [], []⟩
def fns : List He.DefD := [d_is_tuple, d_rises, d_is_spelled, d_is_name, d_is_spec, d_are_specs, d_is_entry, d_is_stock, d_show_spec, d_read_spec, d_show_kind, d_read_kind, d_read_stock, d_law_digits, d_law_take, d_law_words, d_law_stock, d_law_order, d_law_asked, d_law_text, d_law_bent_text, d_law_bent, d_law_name, d_law_row, d_law_due, d_law, d_law_kinds, d_NoText_init, d_Twice_init]
def fas : List He.Fa := [.glo "is_tuple", .glo "rises", .glo "is_spelled", .glo "is_name", .glo "is_spec", .glo "are_specs", .glo "is_entry", .glo "is_stock", .glo "show_spec", .glo "read_spec", .glo "show_kind", .glo "read_kind", .glo "read_stock", .glo "_law_digits", .glo "_law_take", .glo "_law_words", .glo "_law_stock", .glo "_law_order", .glo "_law_asked", .glo "_law_text", .glo "_law_bent_text", .glo "_law_bent", .glo "_law_name", .glo "_law_row", .glo "_law_due", .glo "law", .free "ValueError", .free "all", .free "bool", .free "enumerate", .free "isinstance", .free "len", .free "list", .free "max", .free "range", .free "sorted", .free "str", .free "tuple", .str "LETTERS" (Str.ofString "abcdefghijklmnopqrstuvwxyz"), .int "NAME_MOST" (8), .int "KINDS_MOST" (8), .int "PORTS_MOST" (4), .glo "NoNet", .glo "NoPlace", .glo "NoRoad", .glo "NoRow", .glo "NoRule", .glo "NoStock", .glo "NoText", .glo "Shared", .glo "Twice", .glo "WeaveError", .exc "NoStock", .glo "_law_kinds"]
def exB (K : PySem.W.Frag) : Bool := csB K "NoText" cst_law_asked_0 && (kbB K kbt_law_asked_0 ["NoText", "Twice", "NoStock", "NoPlace"] ["Shared", "NoNet", "NoRow", "NoRoad"] ["NoRule", "ValueError"] && (xfaB K kbt_law_asked_0 "at" && (csB K "Twice" cst_law_asked_1 && (kbB K kbt_law_asked_1 ["NoText", "Twice", "NoStock", "NoPlace"] ["Shared", "NoNet", "NoRow", "NoRoad"] ["NoRule", "ValueError"] && (xfaB K kbt_law_asked_1 "name" && (csB K "WeaveError" cst_law_asked_2 && (kbB K kbt_law_asked_2 ["NoText", "Twice", "NoStock", "NoPlace"] ["Shared", "NoNet", "NoRow", "NoRoad"] ["NoRule", "ValueError"] && (fldB K "NoText" "at" && (fldB K "Twice" "name")))))))))
def tfs : List He.Defn := [("rises", none), ("is_spelled", none), ("are_specs", none), ("is_stock", none), ("read_kind", none)]
abbrev Rr : PySem.W.OpenRow := PySem.W.OpenLaw.row PySem.Challenge.rw_weave_k06_stocks_as_texts
abbrev hk : PySem.W.Hook := He.hookX 6 fas fns [] tfs exB
def ob (s : PySem.W.SharedT) : He.AlX := He.obsX 6 fas fns [] tfs exB (HandSHeadRun.getT s)
theorem ob_eq (s : PySem.W.SharedT) : ob s = hk.obs s.abs := He.obsX_eq (HandSHeadRun.getT_eq s)
def loose : List Str := (["WeaveError", "NoStock", "NoNet", "NoRule", "NoPlace", "Shared", "NoText", "NoRow", "NoRoad", "Twice", "is_tuple", "rises", "is_spelled", "LETTERS", "NAME_MOST", "KINDS_MOST", "PORTS_MOST", "is_name", "is_spec", "are_specs"] : List Str) ++ (["is_entry", "is_stock", "show_spec", "read_spec", "show_kind", "read_kind", "read_stock", "_law_digits", "_law_take", "_law_words", "_law_stock", "_law_order", "_law_kinds", "_law_asked", "_law_text", "_law_bent_text", "_law_bent", "_law_name", "_law_row", "_law_due"] : List Str)
theorem run (w : World) : HandSHeadRun.RunEq Rr (PySem.W.view Rr.prog [45]) hk ob 4000 loose w := by
 intro os
 kernel_rfl
end K06
namespace GenE
open PySem PySem.Spec PyProof.Rows L2 NdefX
open GxR (TabB TabG Tabbed inv_tab sh_eta)
abbrev gEnv (X : Cx) (scope : Scope) (C : Addr) (code : Value) : Env := genEnv scope (cloFrom X.env.cells scope.names []) C code builtinsNs X.env
/-- the context of a generator expression's frame: entered at s, its iterators fp -/
abbrev gcx (X : Cx) (N : List Str) (s : Shared) (H : Hp) (cenv : Env) (fp : List Addr) (A' : Around) : Cx :=
 { X with A := A', N := N, s_0 := s, H_0 := H, env := cenv, outer := X.stack, stack := cenv :: X.stack, ex := fp, fn := fun _ => false, calm := true, pn := [], xe := fun _ _ => False }
/-- the scope of a generator expression: its own names, the captured ones, their slots in the def -/
structure GSc (N : List Str) (sc scope : Scope) (own fr : List Str) (js : List Nat) : Prop where
 kind : scope.kind = .function
 co : scope.isCoroutine = false
 cell : ∀ y ∈ scope.names, y.2 ≠ .cell
 dot : scope.names.lookup (".0" : Str) = some NameKind.local
 free : ∀ y ∈ scope.names, y.2 = .free -> y.1 ∈ fr
 frk : ∀ x ∈ fr, scope.names.lookup x = some .free
 cap : ∀ x ∈ fr, sc.names.lookup x = some .cell \/ sc.names.lookup x = some .free
 at_ : js.map (fun j => N[j]?) = fr.map some
 nd : (own ++ fr).Nodup
def gscB (N : List Str) (sc scope : Scope) (own fr : List Str) (js : List Nat) : Bool :=
 decide (scope.kind = .function) && !scope.isCoroutine && scope.names.all (fun y => !decide (y.2 = .cell)) && decide (scope.names.lookup (".0" : Str) = some NameKind.local)
  && scope.names.all (fun y => !decide (y.2 = .free) || decide (y.1 ∈ fr)) && fr.all (fun x => decide (scope.names.lookup x = some .free)) && fr.all (fun x => decide (sc.names.lookup x = some .cell) || decide (sc.names.lookup x = some .free))
  && decide (js.map (fun j => N[j]?) = fr.map some) && decide (own ++ fr).Nodup
theorem gsc_by {N : List Str} {sc scope : Scope} {own fr : List Str} {js : List Nat} (h : gscB N sc scope own fr js = true) : GSc N sc scope own fr js := by
 unfold gscB at h
 simp only [Bool.and_eq_true, Bool.not_eq_true', decide_eq_true_eq, List.all_eq_true, Bool.or_eq_true, decide_eq_false_iff_not] at h
 obtain ⟨⟨⟨⟨⟨⟨⟨⟨h1, h2⟩, h3⟩, h4⟩, h5⟩, h6⟩, h7⟩, h8⟩, h9⟩ := h
 exact ⟨h1, h2, h3, h4, fun y hy e => (h5 y hy).elim (fun z => absurd e z) id, h6, h7, h8, h9⟩
/-- the names at the entry -/
def sg0 (own : List Str) (js : List Nat) (σ : L2.St) : L2.St := own.map (fun _ => none) ++ js.map (slotAt σ)
section
variable {X : Cx} {pins : List (Addr × Obj)} {σ : L2.St} {H : Hp} {s : Shared} {own fr : List Str} {js : List Nat} {scope : Scope}
theorem Inv.gens' {g' : Array GenState} {h' : Heap} {d' : Drawn} {t' : Nat} (I : Inv X pins σ H s) (hg : AllBare g') (k : ∀ b u, s.heap.get? b = some u -> h'.get? b = some u) : Inv X pins σ H { s with heap := h', gens := g', drawn := d', toks := t' } := by
 have J := I.kept (t' := t') k
 exact ⟨J.ok, J.os, hg, J.base, J.loc, J.cell, J.free, J.freeC, J.pin, J.hok, J.len⟩
theorem inv_start {fp : List Addr} {A' : Around} {code : Value} {h₁ : Heap} {g' : Array GenState} {tk : Nat} {m : Str -> Option Value} (I : Inv X pins σ H s) (S : GSc X.N X.env.scope scope own fr js)
  (hfp : ∀ b ∈ fp, FpOk X pins H b /\ b < s.heap.objs.size) (hns : h₁.Ns s.heap.objs.size m) (kp : ∀ b o, s.heap.get? b = some o -> h₁.get? b = some o) (hg : AllBare g') (hA : A'.handled = none)
  (hfr : A'.frames = some (gEnv X scope s.heap.objs.size code :: X.stack)) :
  Inv (gcx X (own ++ fr) s H (gEnv X scope s.heap.objs.size code) fp A') [] (sg0 own js σ) H { s with heap := h₁, gens := g', toks := tk } := by
 have hfree : ∀ y ∈ scope.names, y.2 = .free -> X.env.scope.names.lookup y.1 = some .cell \/ X.env.scope.names.lookup y.1 = some .free := fun y hy e => S.cap y.1 (S.free y hy e)
 have caps : Caps X (cloFrom X.env.cells scope.names []) fr js := Caps.made I.ok hfree (fun y hy => PySem.mem_of_lookup (S.frk y hy)) S.at_
 have C := cells_of I caps
 have clen := C.len
 have hlocals : ∀ b, b ∈ frs X.stack -> b = X.env.locals \/ b ∈ X.fs := fun b hb => List.mem_cons.mp (I.stkSub b hb)
 have cellK : ∀ {c : Addr} {v : Option Value}, s.heap.IsCell c v -> h₁.IsCell c v := fun {c v} ⟨o, ho, hd⟩ => ⟨o, kp _ _ ho, hd⟩
 refine ⟨⟨I.ok.mod, S.kind, I.ok.glob, rfl, Nat.le_refl _, C.inj, fun y hy => ?_, fun y c z _ => ?_, fun _ => hA, hfr, .inr ⟨rfl, rfl⟩, fun b hb => ⟨?_, fun x c e => ?_⟩, I.bs, Nat.le_trans I.ok.bsz I.sz, fun b o e hb => ?_, fun b hb hz => ?_, I.stack, I.stkFree⟩,
  rfl, hg, Un.kept kp, ⟨_, hns, fun i y v e1 e2 e3 => ?_⟩, fun y c e => ?_, I.hok.fresh (Nat.le_refl _), fun y c e => (C.all y c e).1, fun q hq => absurd (show q ∈ ([] : List (Addr × Obj)) ++ [] from hq) (by simp), I.hok.kept kp, ?_⟩
 ·have hy : scope.names.lookup y = some .cell \/ scope.names.lookup y = some .free := hy
  rcases hy with hy | hy
  ·exact absurd rfl (S.cell _ (PySem.mem_of_lookup hy))
  ·obtain ⟨i, hi⟩ := List.mem_iff_getElem?.mp (S.free _ (PySem.mem_of_lookup hy) rfl)
   obtain ⟨c, hc, _⟩ := C.has i y hi
   exact ⟨c, hc⟩
 ·have z : false = true := z
  cases z
 ·exact Nat.ne_of_lt (hfp b hb).2
 ·have e : (cloFrom X.env.cells scope.names []).lookup x = some c := e
  exact (hfp b hb).1.2.2.2.2.1 x c (caps.sub x c e)
 ·have hb' := (hfp b hb).1.2.2.2.1
  rcases hb' with z | z
  ·exact I.ok.noex b o e z
  ·exact absurd (Nat.lt_of_lt_of_le (Heap.lt_size e) (Nat.le_trans I.ok.bsz z)) (Nat.lt_irrefl _)
 ·rcases hlocals b hz with z | z
  ·exact (hfp b hb).1.2.1 z
  ·exact (hfp b hb).1.2.2.1 z
 ·have e1 : (own ++ fr)[i]? = some y := e1
  have e2 : (sg0 own js σ)[i]? = some (some v) := e2
  unfold sg0 at e2
  by_cases h1 : i < own.length
  ·rw [List.getElem?_append_left (by rw [List.length_map]; exact h1), List.getElem?_map] at e2
   rw [List.getElem?_eq_getElem h1] at e2
   cases e2
  ·rw [List.getElem?_append_right (by omega)] at e1
   rw [List.getElem?_append_right (by rw [List.length_map]; omega), List.length_map] at e2
   obtain ⟨c, hc, hv⟩ := C.has (i - own.length) y e1
   obtain ⟨u, ru, hu⟩ := hv v e2
   refine ⟨u, ru, .inr ⟨.inr ?_, c, hc, cellK hu⟩⟩
   exact S.frk y (List.mem_of_getElem? e1)
 ·obtain ⟨v, z⟩ := (C.all y c e).2
  exact ⟨v, cellK z⟩
 ·show (sg0 own js σ).length = (own ++ fr).length
  unfold sg0
  rw [List.length_append, List.length_append, List.length_map, clen]
end
/-- it sleeps (or has not begun), with at most n items to come -/
def Sl (X : Cx) (pn : List (Addr × Obj)) (fp : List Addr) (tn : Nat -> Heap -> Prop) (W : Nat -> Nat -> L2.St -> Hp -> Prop) (n : Nat) (s : Shared) : Prop :=
 ∃ i m σ H, m <= n /\ Inv X pn σ H s /\ tn i s.heap /\ (∀ b ∈ fp, H b = none) /\ W i m σ H
/-- what is asked at a yield: Yl the items left, the item, the heap; then it may be woken wherever it sleeps -/
def Yg (X : Cx) (pn : List (Addr × Obj)) (fp : List Addr) (tn : Nat -> Heap -> Prop) (W : Nat -> Nat -> L2.St -> Hp -> Prop) (Yl : V -> Hp -> (Hp -> Prop) -> Prop) : Protocol := fun n _ v s kap =>
 ∃ x σ H i, RelV x v /\ Inv X pn σ H s /\ tn i s.heap /\ (∀ b ∈ fp, H b = none) /\ Yl x H (fun H' => ∃ m, m <= n /\ W i m σ H') /\ ∀ s', Sl X pn fp tn W n s' -> kap (.send .none) s'
def Rg (X : Cx) (pn : List (Addr × Obj)) (D : Hp -> Prop) : GenEnd := fun _ _ r s => r = .ok .next /\ ∃ σ H, Inv X pn σ H s /\ D H
/-- the turns of a generator expression -/
def Turns (J : It) (g : TG) (tt : TT) (te : TE) (D : Hp -> Prop) (Yl : V -> Hp -> (Hp -> Prop) -> Prop) (W : Nat -> Nat -> L2.St -> Hp -> Prop) : Prop :=
 ∀ i m σ H, W i m σ H -> (J.stop i H /\ D H) \/ (J.go i H /\ ∃ k, m = k + 1 /\ ∀ x H', J.yld i H x H' -> g x σ H' fun σ2 H2 => tt σ2 H2 fun b H3 =>
  if b = true then te σ2 H3 fun y H4 => Yl y H4 fun H5 => ∃ m', m' <= k /\ W (i + 1) m' σ2 H5 else ∃ m', m' <= k /\ W (i + 1) m' σ2 H3)
section
variable {X : Cx} {pn : List (Addr × Obj)} {elt tg iter : Expr} {ifs : List Expr} {scope : Scope} {pos : Pos} {it : Addr} {fp : List Addr} {tn : Nat -> Heap -> Prop} {J : It} {g : TG} {tt : TT} {te : TE} {D : Hp -> Prop} {Yl : V -> Hp -> (Hp -> Prop) -> Prop} {W : Nat -> Nat -> L2.St -> Hp -> Prop} {A : Around}
theorem seg_loop (hov : A.over (.compLoop (.GeneratorExp elt [⟨tg, iter, ifs, 0⟩] scope pos) 0 (.ref it) .none X.env) [] = X.A) (hc : X.calm = true) (hco : X.env.scope.isCoroutine = false) (hxe : ∀ e s, X.xe e s -> False)
  (T : Turn X.prog X.w X.K tg J fp it tn) (hf : ∀ H, (∀ b ∈ fp, H b = none) -> ∀ b ∈ fp, FpOk X pn H b) (hg : PG X tg g) (ht : PTs X ifs tt) (he : PE X elt te) (hYm : ∀ x H A B, (∀ H, A H -> B H) -> Yl x H A -> Yl x H B) (turn : Turns J g tt te D Yl W) :
  ∀ (n m : Nat) (s₀ s : Shared) (i : Nat) (σ : L2.St) (H : Hp), m <= n -> Inv X pn σ H s -> tn i s.heap -> (∀ b ∈ fp, H b = none) -> W i m σ H ->
   Seg (model X.prog X.w) A (Rg X pn D) (Yg X pn fp tn W Yl) n s₀ (.compLoop (.GeneratorExp elt [⟨tg, iter, ifs, 0⟩] scope pos) 0 (.ref it) .none X.env)
    ((model X.prog X.w).den (.compLoop (.GeneratorExp elt [⟨tg, iter, ifs, 0⟩] scope pos) 0 (.ref it) .none X.env)) [] s := by
 have noE : ∀ {α : Type} {t : Sem α} {Q Q' : α -> Shared -> Prop} {E' : Value -> Shared -> Prop} {s : Shared}, wpAny (model X.prog X.w) X.A t Q X.xe s -> (∀ a s, Q a s -> Q' a s) -> wpAny (model X.prog X.w) X.A t Q' E' s := fun h k => wpAny_mono h k fun e s z => (hxe e s z).elim
 intro n
 induction n using Nat.strongRecOn with
 | ind n ihn =>
  intro m
  induction m using Nat.strongRecOn with
  | ind m ih =>
   intro s₀ s i σ H hmn I st fr w
   show Seg _ A _ _ _ s₀ _ ((compTurn (.GeneratorExp elt [⟨tg, iter, ifs, 0⟩] scope pos) 0 (.ref it) .none X.env).onRaise (leaving X.env)) [] s
   rw [compTurn_gen, Sem.onRaise_eq_wrap]
   refine seg_bind_wrap (wpAny_standAt ?_)
   rcases turn i m σ H w with ⟨stop, qD⟩ | ⟨go, k, hk, step⟩
   ·refine seg_bind_wrap ?_
    rw [hov]
    refine thn (T.done X rfl rfl rfl hc i pn s σ H _ I (hf H fr) st stop) fun r s4 ⟨hr, I4⟩ => ?_
    subst hr
    exact seg_end (.ok .next) ⟨rfl, σ, H, I4, qD⟩
   ·refine seg_bind_wrap ?_
    rw [hov]
    refine thn (T.item X rfl rfl rfl hc i pn s σ H _ I (hf H fr) st go) fun r s4 ⟨u, hr, h4⟩ => ?_
    subst hr
    refine seg_bind_wrap ?_
    rw [hov]
    refine thn h4 fun _ s5 ⟨x, H5, I5, r5, y5, st5, fr5⟩ => ?_
    have I5' := I5.pinned (hf H5 fr5) (T.obj _ _ st5)
    refine seg_bind_wrap ?_
    rw [hov]
    refine noE (hg.run _ s5 σ H5 x u _ I5' r5 (step x H5 y5)) fun _ s6 ⟨σ6, H6, I6, q6⟩ => ?_
    refine seg_bind_wrap ?_
    rw [hov]
    refine noE (ht.run _ s6 σ6 H6 _ I6 q6) fun b s7 ⟨H7, I7, q7⟩ => ?_
    have keepT : ∀ {σ' : L2.St} {H' : Hp} {s' : Shared}, Inv X (pn ++ pinsAt fp s5.heap) σ' H' s' -> Inv X pn σ' H' s' /\ tn (i + 1) s'.heap /\ ∀ b ∈ fp, H' b = none := fun {σ' H' s'} I' => by
     refine ⟨I'.unpinned, T.keep _ _ _ st5 fun b hb o e => (I'.pin (b, o) (List.mem_append_right _ (List.mem_append_right _ (mem_pinsAt hb e)))).1, fun b hb => ?_⟩
     obtain ⟨o, e, d⟩ := T.obj _ _ st5 b hb
     exact (I'.pin (b, o) (List.mem_append_right _ (List.mem_append_right _ (mem_pinsAt hb e)))).2.1
    cases b with
    | false =>
     simp only [Bool.false_eq_true, if_false] at q7 ⊢
     obtain ⟨m', hm', w'⟩ := q7
     obtain ⟨J7, t7, f7⟩ := keepT I7
     exact seg_again rfl (ih m' (by omega) s₀ s7 (i + 1) σ6 H7 (by omega) J7 t7 f7 w')
    | true =>
     simp only [if_true] at q7 ⊢
     obtain ⟨n', rfl⟩ : ∃ n', n = n' + 1 := ⟨n - 1, by omega⟩
     have hy : ∀ v, yieldOut X.env v = yieldValue v := fun v => by simp only [yieldOut, hco, Bool.false_eq_true, if_false]
     simp only [hy]
     rw [Sem.bind_eq_wrap', Sem.bind_eq_wrap', Sem.wrap_wrap, Sem.wrap_wrap]
     refine seg_wrap ?_
     rw [hov]
     refine noE (he.run _ s7 σ6 H7 _ I7 q7) fun v s8 ⟨y, H8, I8, r8, q8⟩ => ?_
     obtain ⟨J8, t8, f8⟩ := keepT I8
     refine seg_at (seg_yield rfl rfl rfl ⟨y, σ6, H8, i + 1, r8, J8, t8, f8, hYm _ _ _ _ (fun H5 ⟨m', h1, h2⟩ => ⟨m', by omega, h2⟩) q8, fun s' hs => ?_⟩)
     obtain ⟨i', m', σ', H', hm', I', t', f', w'⟩ := hs
     exact seg_again rfl (ihn n' (by omega) m' s' s' i' σ' H' hm' I' t' f' w')
/-- .. from its start -/
theorem seg_start (hov : A.over (.compLoop (.GeneratorExp elt [⟨tg, iter, ifs, 0⟩] scope pos) 0 (.ref it) .none X.env) [] = X.A) (hc : X.calm = true) (hco : X.env.scope.isCoroutine = false) (hxe : ∀ e s, X.xe e s -> False)
  (T : Turn X.prog X.w X.K tg J fp it tn) (hf : ∀ H, (∀ b ∈ fp, H b = none) -> ∀ b ∈ fp, FpOk X pn H b) (hg : PG X tg g) (ht : PTs X ifs tt) (he : PE X elt te) (hYm : ∀ x H A B, (∀ H, A H -> B H) -> Yl x H A -> Yl x H B) (turn : Turns J g tt te D Yl W)
  {n : Nat} {s₀ s : Shared} (h : Sl X pn fp tn W n s) :
   Seg (model X.prog X.w) A (Rg X pn D) (Yg X pn fp tn W Yl) n s₀ (.compStart (.GeneratorExp elt [⟨tg, iter, ifs, 0⟩] scope pos) 0 (.ref it) .none X.env)
    ((model X.prog X.w).den (.compStart (.GeneratorExp elt [⟨tg, iter, ifs, 0⟩] scope pos) 0 (.ref it) .none X.env)) [] s := by
 obtain ⟨i, m, σ, H, hm, I, t, f, w⟩ := h
 have loop := seg_loop hov hc hco hxe T hf hg ht he hYm turn n m s₀ s i σ H hm I t f w
 show Seg _ A _ _ _ s₀ _ ((compStart (.GeneratorExp elt [⟨tg, iter, ifs, 0⟩] scope pos) 0 (.ref it) .none X.env).onRaise (leaving X.env)) [] s
 unfold compStart
 rw [Sem.onRaise_eq_wrap]
 show Seg _ A _ _ _ s₀ _ ((ask >>= _).wrap _ _ _ _) [] s
 refine seg_bind_wrap (wpAny_askSetting ?_)
 split
 ·exact seg_again rfl loop
 ·first
   | exact seg_bind_wrap (wpAny_rule (seg_bind_wrap (wpAny_standAt (seg_bind_wrap (T.self _ i s _ _ t (seg_again rfl loop))))))
   | (refine seg_bind_wrap (wpAny_rule ?_); show Seg _ A _ _ _ s₀ _ ((standAt iter.pos >>= _).wrap _ _ _ _) [] s; exact seg_bind_wrap (wpAny_standAt (seg_bind_wrap (T.self _ i s _ _ t (seg_again rfl loop)))))
end
/-- the generator stands at a, with the number g, and goes on -/
def Ready (X : Cx) (pn : List (Addr × Obj)) (fp : List Addr) (tn : Nat -> Heap -> Prop) (W : Nat -> Nat -> L2.St -> Hp -> Prop) (Yl : V -> Hp -> (Hp -> Prop) -> Prop) (D : Hp -> Prop) (A : Around) (a : Addr) (g n : Nat) (s : Shared) : Prop :=
 Sl X pn fp tn W n s /\ ∃ gs, s.gens[g]? = some gs /\ ∀ s', Sl X pn fp tn W n s' -> gs.Goes (model X.prog X.w) A (Rg X pn D) (Yg X pn fp tn W Yl) n (.send .none) s'
section
variable {X : Cx} {oa : Obj} {fp : List Addr} {tn : Nat -> Heap -> Prop} {D : Hp -> Prop} {Yl : V -> Hp -> (Hp -> Prop) -> Prop} {W : Nat -> Nat -> L2.St -> Hp -> Prop} {A : Around} {a : Addr} {g : Nat}
theorem Sl.gens {n : Nat} {s : Shared} {g' : Array GenState} {pn : List (Addr × Obj)} (h : Sl X pn fp tn W n s) (hb : AllBare g') : Sl X pn fp tn W n { s with gens := g' } := by
 obtain ⟨i, m, σ, H, hm, I, t, f, w⟩ := h
 exact ⟨i, m, σ, H, hm, Inv.gens' (d' := s.drawn) (t' := s.toks) I hb fun _ _ e => e, t, f, w⟩
theorem Sl.bare {n : Nat} {s : Shared} {pn : List (Addr × Obj)} (h : Sl X pn fp tn W n s) : AllBare s.gens := by
 obtain ⟨i, m, σ, H, hm, I, t, f, w⟩ := h
 exact I.bare
/-- one less -/
def Les (n : Nat) (P : Nat -> Prop) : Prop := match n with
 | 0 => False
 | k + 1 => P k
/-- one next: an item or the end -/
theorem next_ready {Q : Option Value -> Shared -> Prop} {E : Value -> Shared -> Prop} {n : Nat} {s : Shared} (hh : A.handled = none) (hroom : A.depth < recursionLimit) (hog : ∀ h : Heap, h.get? a = some oa -> h.IsGen a g) (h : Ready X [(a, oa)] fp tn W Yl D A.in1 a g n s)
  (hY : ∀ x v σ H i s' gs, RelV x v -> Inv X [(a, oa)] σ H s' -> tn i s'.heap -> (∀ b ∈ fp, H b = none) -> Yl x H (fun H' => ∃ m, m <= n - 1 /\ W i m σ H') -> s'.gens[g]? = some gs ->
   (∀ s'', Sl X [(a, oa)] fp tn W (n - 1) s'' -> Les n fun k => gs.Goes (model X.prog X.w) A.in1 (Rg X [(a, oa)] D) (Yg X [(a, oa)] fp tn W Yl) k (.send .none) s'') -> Q (some v) s')
  (hD : ∀ σ H s', Inv X [(a, oa)] σ H s' -> D H -> Q none s') : wpAny (model X.prog X.w) A (pyNext (.ref a)) Q E s := by
 obtain ⟨hsl, gs, hgs, hgo⟩ := h
 obtain ⟨i, m, σ, H, hm, I, t, f, w⟩ := id hsl
 have hga : s.heap.IsGen a g := hog _ (I.pin (a, oa) (by simp)).1
 have hgl : g < s.gens.size := (Array.getElem?_eq_some_iff.mp hgs).1
 refine GenW.wpAny_gsz (n := g + 1) hgl ?_
 refine wpAny_pyNext_genexpQ (P := fun _ _ s₁ => ∃ σ H, Inv X [(a, oa)] σ H s₁ /\ D H) hh I.nolimit hroom hga hgs (hgo _ (Sl.gens hsl (allBare_setGen hsl.bare rfl))) (fun v s₁ gs' hb hv => ?_) (fun s₁ hp h' hk => ?_)
 ·intro hsz
  obtain ⟨x, σ1, H1, i1, rx, I1, t1, f1, y1, hk⟩ := hv
  have hsz1 : g < s₁.gens.size := by
   have q : (s₁.setGen g gs').gens.size = s₁.gens.size := GenW.setGen_size _ _ _
   have hsz' : g + 1 <= (s₁.setGen g gs').gens.size := hsz
   omega
  refine hY x v σ1 H1 i1 _ gs' rx (Inv.gens' (d' := s₁.drawn) (t' := s₁.toks) I1 (allBare_setGen I1.bare hb) fun _ _ e => e) t1 f1 y1 (setGen_at hsz1) fun s'' hs => ?_
  have q := hk s'' hs
  cases n with
  | zero => exact q
  | succ k => exact q
 ·intro _
  obtain ⟨σ1, H1, I1, d1⟩ := hp
  exact hD σ1 H1 _ (Inv.gens' (s := s₁) (d' := s₁.drawn) (t' := s₁.toks) I1 (allBare_setGen I1.bare rfl) hk) d1
/-- all: Yl for a test: go on where it is True, else Q -/
def yAll (Q : VK) : V -> Hp -> (Hp -> Prop) -> Prop := fun x H C => ∃ b, x = .bl b /\ (b = true -> C H) /\ (b = false -> Q (.bl false) H)
theorem yAll_mono {Q : VK} : ∀ x H A B, (∀ H, A H -> B H) -> yAll Q x H A -> yAll Q x H B := fun x H A B k ⟨b, e, h1, h2⟩ => ⟨b, e, fun z => k _ (h1 z), h2⟩
theorem all_loop {Q : VK} {R : Result -> Shared -> Prop} (hh : A.handled = none) (hroom : A.depth < recursionLimit) (hog : ∀ h : Heap, h.get? a = some oa -> h.IsGen a g)
  (hR : ∀ b σ H s', Inv X [(a, oa)] σ H s' -> Q (.bl b) H -> R (.ok (.ret (.bool b))) s') :
  ∀ (n : Nat) (s : Shared), Ready X [(a, oa)] fp tn W (yAll Q) (fun H => Q (.bl true) H) A.in1.in1 a g n s -> codeAny (model X.prog X.w) A (.builtin "all.loop" ⟨[.ref a], []⟩) R s := by
 intro n
 induction n with
 | zero =>
  intro s hr
  refine codeAny_builtin F.entry_all_loop ?_
  rw [Around.under_plainId F.plain_all_loop _]
  show wpAny _ A.in1 (pyNext (.ref a) >>= _) _ _ s
  refine wpAny_bind (next_ready (A := A.in1) hh hroom hog hr (fun x v σ H i s' gs rx I t f y hgs hk => ?_) fun σ H s' I q => ?_)
  ·obtain ⟨b, rfl, y1, y2⟩ := y
   cases rx
   refine wpAny_bind (wpAny_holding (wpAny_truthy_bool ?_))
   refine wpAny_bind (wpAny_letGo ?_)
   cases b with
   | true =>
    obtain ⟨m, hm, w⟩ := y1 rfl
    exact (hk s' ⟨i, m, σ, H, hm, I, t, f, w⟩).elim
   | false =>
    simp only [Bool.false_eq_true, if_false]
    refine wpAny_bind (wpAny_rule (wpAny_pure ?_))
    exact hR false σ H _ I (y2 rfl)
  ·refine wpAny_bind (wpAny_rule (wpAny_pure ?_))
   exact hR true σ H _ I q
 | succ n ih =>
  intro s hr
  refine codeAny_builtin F.entry_all_loop ?_
  rw [Around.under_plainId F.plain_all_loop _]
  show wpAny _ A.in1 (pyNext (.ref a) >>= _) _ _ s
  refine wpAny_bind (next_ready (A := A.in1) hh hroom hog hr (fun x v σ H i s' gs rx I t f y hgs hk => ?_) fun σ H s' I q => ?_)
  ·obtain ⟨b, rfl, y1, y2⟩ := y
   cases rx
   refine wpAny_bind (wpAny_holding (wpAny_truthy_bool ?_))
   refine wpAny_bind (wpAny_letGo ?_)
   cases b with
   | true =>
    obtain ⟨m, hm, w⟩ := y1 rfl
    simp only [if_true]
    exact wpAny_pure ⟨plainId_quiet F.plain_all_loop _, ih s' ⟨⟨i, m, σ, H, hm, I, t, f, w⟩, gs, hgs, fun s'' hs => hk s'' hs⟩⟩
   | false =>
    simp only [Bool.false_eq_true, if_false]
    refine wpAny_bind (wpAny_rule (wpAny_pure ?_))
    exact hR false σ H _ I (y2 rfl)
  ·refine wpAny_bind (wpAny_rule (wpAny_pure ?_))
   exact hR true σ H _ I q
end
def Pack (J : It) (g : TG) (tt : TT) (te : TE) (σ : L2.St) (H : Hp) (D : Hp -> Prop) (Yl : V -> Hp -> (Hp -> Prop) -> Prop) : Prop := ∃ W : Nat -> Nat -> L2.St -> Hp -> Prop, (∃ m, W 0 m σ H) /\ Turns J g tt te D Yl W
section
variable {X : Cx} {pins : List (Addr × Obj)} {σ : L2.St} {H : Hp} {s : Shared} {own fr : List Str} {js : List Nat} {scope : Scope} {elt tg iter : Expr} {ifs : List Expr} {gpos : Pos} {wi : TI} {g : TG} {tt : TT} {te : TE} {c P : Addr} {k : Nat} {D : Hp -> Prop} {Yl : V -> Hp -> (Hp -> Prop) -> Prop}
/-- what must be known of the parts -/
structure Parts (X : Cx) (k : Nat) (own fr : List Str) (js : List Nat) (scope : Scope) (elt tg iter : Expr) (ifs : List Expr) (wi : TI) (g : TG) (tt : TT) (te : TE) (c P : Addr) : Prop where
 hr : Room (k + 1) X.A
 TB : TabB X.base X.mg c P
 code : X.env.code = .ref c
 S : GSc X.N X.env.scope scope own fr js
 hi : PI X tg iter wi
 hg : ∀ (s : Shared) (H : Hp) (C : Addr) (code : Value) (fp : List Addr) (A' : Around), Room k A' -> PG (gcx X (own ++ fr) s H (gEnv X scope C code) fp A') tg g
 ht : ∀ (s : Shared) (H : Hp) (C : Addr) (code : Value) (fp : List Addr) (A' : Around), Room k A' -> PTs (gcx X (own ++ fr) s H (gEnv X scope C code) fp A') ifs tt
 he : ∀ (s : Shared) (H : Hp) (C : Addr) (code : Value) (fp : List Addr) (A' : Around), Room k A' -> PE (gcx X (own ++ fr) s H (gEnv X scope C code) fp A') elt te
 hs : ∀ v, genFold iter X.env v = pure v
theorem room_over {A : Around} {cenv : Env} {itv : Value} (hr : Room (k + 1) A) : Room k (A.in1.in1.over (.compLoop (.GeneratorExp elt [⟨tg, iter, ifs, 0⟩] scope gpos) 0 itv .none cenv) []) := by
 refine ⟨hr.hd, ?_, ?_⟩
 ·have := hr.dp
  show A.depth + 0 + 1 + 3 * k + 5 < _
  omega
 ·have := hr.un
  show A.units + 1 + 1 + 0 + 3 + 16 * k + 200 < _
  omega
theorem gen_make {Q' : Value -> Shared -> Prop} (pp : Parts X k own fr js scope elt tg iter ifs wi g tt te c P) (hYm : ∀ x H A B, (∀ H, A H -> B H) -> Yl x H A -> Yl x H B) (I : Inv X pins σ H s)
  (h : wi σ H fun J H1 => TabG H1 P /\ ∀ H2, Tabbed P H1 H2 -> Pack J g tt te (sg0 own js σ) H2 D Yl)
  (hQ : ∀ (Xg : Cx) (a : Addr) (oa : Obj) (fp : List Addr) (tn : Nat -> Heap -> Prop) (W : Nat -> Nat -> L2.St -> Hp -> Prop) (gn n : Nat) (s5 : Shared), Xg.prog = X.prog -> Xg.w = X.w -> s5.heap.IsGen a gn -> (∀ h : Heap, h.get? a = some oa -> h.IsGen a gn) ->
   (∀ σ' H' s', Inv Xg [(a, oa)] σ' H' s' -> Inv X pins σ H' s') -> Ready Xg [(a, oa)] fp tn W Yl D X.A.in1.in1 a gn n s5 -> Q' (.ref a) s5) :
  wpAny (model X.prog X.w) X.A (eval (.GeneratorExp elt [⟨tg, iter, ifs, 0⟩] scope gpos) X.env) Q' X.xe s := by
 obtain ⟨hr, TB, hcode, S, hi, hg, ht, he, hs⟩ := pp
 have hfree : ∀ y ∈ scope.names, y.2 = .free -> ∃ c, X.env.cells.lookup y.1 = some c := fun y hy e => (S.cap y.1 (S.free y hy e)).elim (fun z => I.ok.has _ (.inl z)) fun z => I.ok.has _ (.inr z)
 refine wpAny_GeneratorExp_make S.co (closure_ok hfree) S.cell S.dot S.kind (by have := hr.dp; omega) ?_ hs
 refine thn (hi.run pins s σ H _ I h) fun v s1 h1 => thn h1 fun itv s2 h2 => ?_
 obtain ⟨it, fp, tn, J, H2, rfl, I2, T, st2, f2, ⟨ps, hP, htr⟩, q⟩ := h2
 refine ⟨I2.nolimit, ?_⟩
 have hPs : s2.heap.get? P = some { cls := .none, data := .fields ps } := I2.hok P _ hP
 have cd : PySem.W.CodeHd s2.heap c P := TB.code.keeps I2.bk
 have cont : ∀ (code : Value) (s3 : Shared) (H3 : Hp), Inv X pins σ H3 s3 -> Tabbed P H2 H3 -> tn 0 s3.heap ->
   wpAny (model X.prog X.w) X.A (builtinsFor X.env.globals X.env.builtins) (fun bi s₄ =>
    ∀ h', h'.Ns s₄.heap.objs.size (fun y => if y = ".0" then some (.ref it) else none) -> Heap.SameBut s₄.heap.objs.size (s₄.heap.push { cls := .type "frame", data := .dict #[] }) h' ->
     Q' (.ref h'.objs.size) { s₄ with
      gens := s₄.gens.push (.fresh (.compStart (.GeneratorExp elt [⟨tg, iter, ifs, 0⟩] scope gpos) 0 (.ref it) .none (genEnv scope (cloFrom X.env.cells scope.names []) s₄.heap.objs.size code bi X.env))),
      toks := s₄.toks + 1 + 1 + 1,
      heap := h'.push { cls := .type "generator", data := .fields #[.int s₄.gens.size 0, .str "<genexpr>" (s₄.toks + 1), .str (X.env.qual ++ "<genexpr>") (s₄.toks + 1 + 1)] } }) X.xe s3 := by
  intro code s3 H3 I3 hT st3
  obtain ⟨bm, ob, e1, e2, e3, e4, e5, e6, e7, e8⟩ := TB.bm
  refine wpAny_builtinsFor (m := X.mg) (by rw [I3.ok.glob]; exact I3.mod.glob.keeps I3.bk) e1 e2 (I3.bk _ _ e5) e6 e7 e8 ?_
  intro h' hn' hs'
  obtain ⟨W, ⟨m, w0⟩, turn⟩ := q H3 hT
  have hsz : h'.objs.size = s3.heap.objs.size + 1 := by rw [hs'.1, Heap.size_push]
  have keep' : ∀ b o, s3.heap.get? b = some o -> h'.get? b = some o := fun b o e => hs'.extBut b o (Nat.ne_of_lt (Heap.lt_size e)) (Heap.get?_push_of_some _ e)
  have fn : ∀ b ∈ fp, H3 b = none := fun b hb => by
   rw [hT.2 b (fun z => by have q := (f2 b hb).1; rw [z, hP] at q; cases q)]
   exact (f2 b hb).1
  have hf3 : ∀ b ∈ fp, FpOk X pins H3 b /\ b < s3.heap.objs.size := fun b hb => ⟨⟨fn b hb, (f2 b hb).2⟩, by
   obtain ⟨o, e, _⟩ := T.obj _ _ st3 b hb
   exact Heap.lt_size e⟩
  have hfr : (X.A.in1.in1.over (.compLoop (.GeneratorExp elt [⟨tg, iter, ifs, 0⟩] scope gpos) 0 (.ref it) .none (gEnv X scope s3.heap.objs.size code)) []).frames = some (gEnv X scope s3.heap.objs.size code :: X.stack) := by
   have e9 : X.A.in1.in1.frames = some X.stack := I3.ok.frames
   have e10 : X.A.frames = some X.stack := I3.ok.frames
   simp only [Around.over, List.map_nil]
   rw [e10]
   rfl
  have hrA := room_over (k := k) (A := X.A) (elt := elt) (tg := tg) (iter := iter) (ifs := ifs) (scope := scope) (gpos := gpos) (cenv := gEnv X scope s3.heap.objs.size code) (itv := .ref it) hr
  have hgb : AllBare (s3.gens.push (.fresh (.compStart (.GeneratorExp elt [⟨tg, iter, ifs, 0⟩] scope gpos) 0 (.ref it) .none (gEnv X scope s3.heap.objs.size code)))) := I3.bare.push rfl
  have keep5 : ∀ b o, s3.heap.get? b = some o -> (h'.push { cls := .type "generator", data := .fields #[.int s3.gens.size 0, .str "<genexpr>" (s3.toks + 1), .str (X.env.qual ++ "<genexpr>") (s3.toks + 1 + 1)] }).get? b = some o := fun b o e => Heap.get?_push_of_some _ (keep' b o e)
  have I5 := inv_start (own := own) (fr := fr) (js := js) (code := code) (fp := fp) (tk := s3.toks + 1 + 1 + 1) I3 S hf3 (hn'.push { cls := .type "generator", data := .fields #[.int s3.gens.size 0, .str "<genexpr>" (s3.toks + 1), .str (X.env.qual ++ "<genexpr>") (s3.toks + 1 + 1)] }) keep5 hgb hrA.hd hfr
  have hget : (h'.push { cls := .type "generator", data := .fields #[.int s3.gens.size 0, .str "<genexpr>" (s3.toks + 1), .str (X.env.qual ++ "<genexpr>") (s3.toks + 1 + 1)] }).get? h'.objs.size = some ({ cls := .type "generator", data := .fields #[.int s3.gens.size 0, .str "<genexpr>" (s3.toks + 1), .str (X.env.qual ++ "<genexpr>") (s3.toks + 1 + 1)] } : Obj) := Heap.get?_push_size _ rfl
  have na : h'.objs.size ∉ frs X.stack := fun z => by
   obtain ⟨_, o, ho, _⟩ := I3.stack.mem z
   have := Heap.lt_size ho
   have h9 : (h'.objs.size : Nat) < s3.heap.objs.size := this
   omega
  have I6 := I5.pins_of (pins' := [(h'.objs.size, { cls := .type "generator", data := .fields #[.int s3.gens.size 0, .str "<genexpr>" (s3.toks + 1), .str (X.env.qual ++ "<genexpr>") (s3.toks + 1 + 1)] })]) (fun p hp => by
   rw [List.mem_singleton.mp hp]
   exact ⟨hget, I3.hok.fresh (by omega), by show h'.objs.size ≠ s3.heap.objs.size; omega, na, fun v z => by cases z⟩)
  have hog : ∀ h : Heap, h.get? h'.objs.size = some ({ cls := .type "generator", data := .fields #[.int s3.gens.size 0, .str "<genexpr>" (s3.toks + 1), .str (X.env.qual ++ "<genexpr>") (s3.toks + 1 + 1)] } : Obj) -> h.IsGen h'.objs.size s3.gens.size := fun h e => ⟨_, _, _, e, rfl, rfl, rfl⟩
  have hsl : Sl (gcx X (own ++ fr) s3 H3 (gEnv X scope s3.heap.objs.size code) fp (X.A.in1.in1.over (.compLoop (.GeneratorExp elt [⟨tg, iter, ifs, 0⟩] scope gpos) 0 (.ref it) .none (gEnv X scope s3.heap.objs.size code)) [])) [(h'.objs.size, { cls := .type "generator", data := .fields #[.int s3.gens.size 0, .str "<genexpr>" (s3.toks + 1), .str (X.env.qual ++ "<genexpr>") (s3.toks + 1 + 1)] })] fp tn W m _ := ⟨0, m, _, H3, Nat.le_refl _, I6, T.keep _ _ _ st3 fun b hb o e => keep5 b o e, fn, w0⟩
  refine hQ (gcx X (own ++ fr) s3 H3 (gEnv X scope s3.heap.objs.size code) fp (X.A.in1.in1.over (.compLoop (.GeneratorExp elt [⟨tg, iter, ifs, 0⟩] scope gpos) 0 (.ref it) .none (gEnv X scope s3.heap.objs.size code)) [])) h'.objs.size _ fp tn W s3.gens.size m _ rfl rfl (hog _ hget) hog (fun σ' H' s' J' => ?_) ⟨hsl, _, Array.getElem?_push_size .., fun s' hs' => ⟨rfl, ?_⟩⟩
  ·exact I3.call' (ch := fp) J'.os J'.base J'.hok J'.bare fun b hb => ⟨(hf3 b hb).1.2.2.2.1, (hf3 b hb).1.2.1, (hf3 b hb).1.2.2.2.2.1, (hf3 b hb).1.2.2.2.2.2⟩
  ·refine seg_start (X := gcx X (own ++ fr) s3 H3 (gEnv X scope s3.heap.objs.size code) fp (X.A.in1.in1.over (.compLoop (.GeneratorExp elt [⟨tg, iter, ifs, 0⟩] scope gpos) 0 (.ref it) .none (gEnv X scope s3.heap.objs.size code)) [])) rfl rfl S.co (fun _ _ z => z) T (fun H' hn b hb => ⟨hn b hb, ?_, ?_, .inl hb, ?_, ?_⟩) (hg _ _ _ _ _ _ hrA) (ht _ _ _ _ _ _ hrA) (he _ _ _ _ _ _ hrA) hYm turn hs'
   ·exact (I5.ok.exf b hb).1
   ·exact I5.ok.exfs b hb
   ·exact (I5.ok.exf b hb).2
   ·intro p hp z
    have hp' : p = (h'.objs.size, _) := List.mem_singleton.mp hp
    rw [hp'] at z
    have h9 : (b : Nat) < s3.heap.objs.size := (hf3 b hb).2
    have z9 : h'.objs.size = b := z
    rw [<- z9, hsz] at h9
    exact Nat.lt_irrefl _ (Nat.lt_of_succ_lt h9)
 cases hf : codeAmong gpos ps.toList with
 | none =>
  refine wpAny_genexprCodeX hcode (cd.code hPs htr) (cd.tab hPs) hf fun c' h' tk hx hge hlt hco' _ htab' _ => ?_
  obtain ⟨o1, vs, f1, tf, fl, tg', inF, tx, tt', op, _, _, _, _, _, _, _, _, _, htr', _⟩ := hco'
  have J := inv_tab (more := #[rawInt gpos.line, rawInt gpos.col, .ref c']) (h' := h') (g' := s2.gens) (d' := s2.drawn) (t' := tk) I2 hP (fun b o hb e => hx b o hb e) htab'.2 I2.bare
  exact cont _ _ _ J ⟨⟨_, upd_same, htr'⟩, fun b hb => upd_ne hb⟩ (T.keep _ _ _ st2 fun b hb o e => hx b o (fun z => by have q := (f2 b hb).1; rw [z, hP] at q; cases q) e)
 | some cv =>
  exact wpAny_genexprCode_hit hcode (cd.code hPs htr) hf (cont cv s2 H2 I2 ⟨⟨ps, hP, htr⟩, fun b _ => rfl⟩ st2)
/-- all(elt for tg in iter if ..) -/
def tAllG (P : Addr) (own : List Str) (js : List Nat) (wi : TI) (g : TG) (tt : TT) (te : TE) : TE := fun σ H Q => wi σ H fun J H1 => TabG H1 P /\ ∀ H2, Tabbed P H1 H2 -> Pack J g tt te (sg0 own js σ) H2 (fun H => Q (.bl true) H) (yAll Q)
theorem pe_allG {p pos : Pos} (hgl : Gl X "all") (hm : X.mg "all" = none) (pp : Parts X k own fr js scope elt tg iter ifs wi g tt te c P)
  (he : starEach [.GeneratorExp elt [⟨tg, iter, ifs, 0⟩] scope gpos] X.env = (false, eval (.GeneratorExp elt [⟨tg, iter, ifs, 0⟩] scope gpos) X.env) :: starEach [] X.env := by rfl) :
  PE X (.Call (.Name "all" p) [.GeneratorExp elt [⟨tg, iter, ifs, 0⟩] scope gpos] [] pos) (tAllG P own js wi g tt te) := by
 refine ⟨fun pins s σ H Q I h => ?_⟩
 refine wpAny_Call_Name_kw (ld_blt I hgl hm (by decide +kernel : bootBuiltins "all" = some (.builtin "all")) ?_)
 refine PyProof.Rows.callWith_builtin1 ?_ he (by rfl)
 rw [he]
 show wpAny _ _ (spliced ((false, eval (.GeneratorExp elt [⟨tg, iter, ifs, 0⟩] scope gpos) X.env) :: backTo pos (starEach [] X.env))) _ _ s
 refine Calls.spliced_cons (gen_make pp yAll_mono I h fun Xg a oa fp tn W gn n s5 e1 e2 hga hog back hrd => ?_)
 refine Calls.spliced_nil ?_
 refine call_function_tree F.kind_all F.plain_all F.entry_all (F.args_all1 _) ?_
 unfold Builtin.«all»
 refine wpAny_bind (m := oneArg "all" _) (wpAny_pure ?_)
 refine wpAny_bind (wpAny_pyIter_gen hga ?_)
 have L := all_loop (A := X.A) (R := fun r s' => ∃ b H', r = .ok (.ret (.bool b)) /\ Inv X pins σ H' s' /\ Q (.bl b) H') pp.hr.hd (by have := pp.hr.dp; omega) hog (fun b σ' H' s' J q => ⟨b, H', rfl, back σ' H' s' J, q⟩) n s5 hrd
 rw [e1, e2] at L
 refine wpAny_pure ⟨plainId_quiet F.plain_all_loop _, codeAny_mono L fun r s' hq => ?_⟩
 obtain ⟨b, H', rfl, J, q⟩ := hq
 exact ⟨.bl b, H', J, rfl, q⟩
end
end GenE
namespace Sh
open PySem PySem.Spec PyProof.Rows L2 NdefX GenE
open GxR (TabB TabG Tabbed)
/-- what is known of a tuple's object: nothing; frozen, without a dict; tracked as a tuple -/
inductive Tk where
 | any | nod | trk
inductive Vl where
 | non | bl (b : Bool) | int (i : Int) | str (x : Str) | tup (d : Tk) (xs : List Vl) | ref (k : Nat)
 /-- an exception that flies: its class, its field's name, its field -/
 | exc (c n : Str) (xs : List Vl)
/-- what stands in the store: a list; a list that is only read; a dict; a dict by tuples; a set of ints -/
inductive Ob where
 | lst (xs : List Vl) | fro (xs : List Vl) | dic (kvs : List (Key × Vl)) | dit (kvs : List (List Key × Vl)) | ist (S : List Int)
 /-- dicts that are only read from now on -/
 | fdi (kvs : List (Key × Vl)) | fdt (kvs : List (List Key × Vl))
/-- the tables of code objects, and the world -/
structure Tb where
 l : List Addr
 w : World
instance : Membership Addr Tb := ⟨fun t a => a ∈ t.l⟩
abbrev Mem := List Ob
abbrev Env := List (Option Vl)
def Ob.mut : Ob -> Bool
 | .fro _ => false
 | .fdi _ => false
 | .fdt _ => false
 | _ => true
/-- the object at a is known, and has no dict of its own -/
def Nd (H : Hp) (a : Addr) : Prop := ∃ o u, H a = some (.frz o u) /\ o.dict = none
def Kn (H : Hp) (a : Addr) (ws : List V) : Tk -> Prop
 | .any => True
 | .nod => Nd H a
 | .trk => H a = some (.tup ws)
mutual
inductive Rv (K : PySem.W.Frag) (μ : List Addr) (H : Hp) : Vl -> V -> Prop
 | non : Rv K μ H .non .non
 | bl (b : Bool) : Rv K μ H (.bl b) (.bl b)
 | int (i : Int) : Rv K μ H (.int i) (.int i)
 | str (x : Str) : Rv K μ H (.str x) (.str x)
 | tup {a : Addr} {d : Tk} {xs : List Vl} {ws : List V} : SqT K H a ws -> RvA K μ H xs ws -> Kn H a ws d -> Rv K μ H (.tup d xs) (.ref a)
 | ref {k : Nat} {a : Addr} : μ[k]? = some a -> Rv K μ H (.ref k) (.ref a)
inductive RvA (K : PySem.W.Frag) (μ : List Addr) (H : Hp) : List Vl -> List V -> Prop
 | nil : RvA K μ H [] []
 | cons {x : Vl} {xs : List Vl} {w : V} {ws : List V} : Rv K μ H x w -> RvA K μ H xs ws -> RvA K μ H (x :: xs) (w :: ws)
end
/-- the store has grown, tuples stay -/
structure Ext (μ : List Addr) (H : Hp) (μ' : List Addr) (H' : Hp) : Prop where
 pre : ∃ ν, μ' = μ ++ ν
 tup : ∀ b xs, H b = some (.tup xs) -> H' b = some (.tup xs)
 frz : ∀ b o u, H b = some (.frz o u) -> H' b = some (.frz o u)
theorem Ext.refl (μ : List Addr) (H : Hp) : Ext μ H μ H := ⟨⟨[], by simp⟩, fun _ _ h => h, fun _ _ _ h => h⟩
theorem Ext.trans {μ μ1 μ2 : List Addr} {H H1 H2 : Hp} (a : Ext μ H μ1 H1) (b : Ext μ1 H1 μ2 H2) : Ext μ H μ2 H2 :=
 ⟨by obtain ⟨x, e⟩ := a.pre; obtain ⟨y, e'⟩ := b.pre; exact ⟨x ++ y, by rw [e', e, List.append_assoc]⟩, fun c xs h => b.tup c xs (a.tup c xs h), fun c o u h => b.frz c o u (a.frz c o u h)⟩
theorem Ext.at {μ μ' : List Addr} {H H' : Hp} (e : Ext μ H μ' H') {k : Nat} {a : Addr} (h : μ[k]? = some a) : μ'[k]? = some a := by
 obtain ⟨ν, rfl⟩ := e.pre
 exact (List.getElem?_append_left (List.getElem?_eq_some_iff.mp h).1).trans h
theorem Ext.sqT {K : PySem.W.Frag} {μ μ' : List Addr} {H H' : Hp} (e : Ext μ H μ' H') {a : Addr} {ws : List V} (h : SqT K H a ws) : SqT K H' a ws := by
 rcases h with (h | ⟨o, h⟩) | h
 ·exact .inl (.inl (e.tup _ _ h))
 ·exact .inl (.inr ⟨o, e.frz _ _ _ h⟩)
 ·exact .inr h
theorem Kn.ext {μ μ' : List Addr} {H H' : Hp} {a : Addr} {ws : List V} {d : Tk} (n : Kn H a ws d) (e : Ext μ H μ' H') : Kn H' a ws d := by
 cases d with
 | any => trivial
 | nod => obtain ⟨o, u, h1, h2⟩ := n; exact ⟨o, u, e.frz _ _ _ h1, h2⟩
 | trk => exact e.tup _ _ n
section
variable {K : PySem.W.Frag} {μ μ' : List Addr} {H H' : Hp}
mutual
theorem Rv.ext (e : Ext μ H μ' H') : ∀ {x : Vl} {w : V}, Rv K μ H x w -> Rv K μ' H' x w
 | _, _, .non => .non
 | _, _, .bl b => .bl b
 | _, _, .int b => .int b
 | _, _, .str b => .str b
 | _, _, .tup s r n => .tup (e.sqT s) (RvA.ext e r) (n.ext e)
 | _, _, .ref h => .ref (e.at h)
theorem RvA.ext (e : Ext μ H μ' H') : ∀ {xs : List Vl} {ws : List V}, RvA K μ H xs ws -> RvA K μ' H' xs ws
 | _, _, .nil => .nil
 | _, _, .cons a b => .cons (Rv.ext e a) (RvA.ext e b)
end
theorem RvA.length : ∀ {xs : List Vl} {ws : List V}, RvA K μ H xs ws -> xs.length = ws.length
 | _, _, .nil => rfl
 | _, _, .cons _ b => congrArg (· + 1) (RvA.length b)
theorem RvA.get : ∀ {xs : List Vl} {ws : List V} {i : Nat} {x : Vl}, RvA K μ H xs ws -> xs[i]? = some x -> ∃ w, ws[i]? = some w /\ Rv K μ H x w
 | _, _, _, _, .nil, h => by simp at h
 | _, _, 0, _, .cons a b, h => by
  have e := Option.some.inj h
  subst e
  exact ⟨_, rfl, a⟩
 | _, _, i + 1, x, .cons a b, h => RvA.get (i := i) b h
theorem RvA.append : ∀ {xs ys : List Vl} {ws us : List V}, RvA K μ H xs ws -> RvA K μ H ys us -> RvA K μ H (xs ++ ys) (ws ++ us)
 | _, _, _, _, .nil, b => b
 | _, _, _, _, .cons r a, b => .cons r (RvA.append a b)
theorem RvA.take : ∀ {xs : List Vl} {ws : List V} (n : Nat), RvA K μ H xs ws -> RvA K μ H (xs.take n) (ws.take n)
 | _, _, 0, _ => .nil
 | _, _, _ + 1, .nil => .nil
 | _, _, n + 1, .cons a b => .cons a (RvA.take n b)
theorem RvA.drop : ∀ {xs : List Vl} {ws : List V} (n : Nat), RvA K μ H xs ws -> RvA K μ H (xs.drop n) (ws.drop n)
 | _, _, 0, r => r
 | _, _, _ + 1, .nil => .nil
 | _, _, n + 1, .cons a b => RvA.drop n b
theorem RvA.set {x : Vl} {w : V} (r : Rv K μ H x w) : ∀ {xs : List Vl} {ws : List V} (i : Nat), RvA K μ H xs ws -> RvA K μ H (xs.set i x) (ws.set i w)
 | _, _, _, .nil => .nil
 | _, _, 0, .cons _ b => .cons r b
 | _, _, i + 1, .cons a b => .cons a (RvA.set r i b)
theorem RvA.rep : ∀ (n : Nat) {xs : List Vl} {ws : List V}, RvA K μ H xs ws -> RvA K μ H (List.replicate n xs).flatten (List.replicate n ws).flatten
 | 0, _, _, _ => .nil
 | n + 1, xs, ws, r => by
  rw [List.replicate_succ, List.replicate_succ, List.flatten_cons, List.flatten_cons]
  exact r.append (RvA.rep n r)
theorem RvA.get' : ∀ {xs : List Vl} {ws : List V} {i : Nat} {w : V}, RvA K μ H xs ws -> ws[i]? = some w -> ∃ x, xs[i]? = some x /\ Rv K μ H x w
 | _, _, _, _, .nil, h => by simp at h
 | _, _, 0, _, .cons a b, h => by
  have e := Option.some.inj h
  subst e
  exact ⟨_, rfl, a⟩
 | _, _, i + 1, x, .cons a b, h => RvA.get' (i := i) b h
end
/-- the list at a is read only: it stays whatever is written -/
def RF (K : PySem.W.Frag) (H : Hp) (a : Addr) (ws : List V) : Prop := (∃ o, H a = some (.frz o (.lst ws))) \/ ∀ H' : Hp, SqL K H' a ws
theorem RF.sq {K : PySem.W.Frag} {H : Hp} {a : Addr} {ws : List V} (r : RF K H a ws) : SqL K H a ws := by
 rcases r with ⟨o, h⟩ | h
 ·exact .inl (.inr ⟨o, h⟩)
 ·exact h H
theorem RF.ext {K : PySem.W.Frag} {μ μ' : List Addr} {H H' : Hp} {a : Addr} {ws : List V} (r : RF K H a ws) (e : Ext μ H μ' H') : RF K H' a ws := by
 rcases r with ⟨o, h⟩ | h
 ·exact .inl ⟨o, e.frz _ _ _ h⟩
 ·exact .inr h
def Rk {κ : Type} (K : PySem.W.Frag) (μ : List Addr) (H : Hp) (kvs : List (κ × Vl)) (kws : List (κ × V)) : Prop := kvs.map (·.1) = kws.map (·.1) /\ RvA K μ H (kvs.map (·.2)) (kws.map (·.2))
def Ro (K : PySem.W.Frag) (T : Tb) (μ : List Addr) (H : Hp) (a : Addr) : Ob -> Prop
 | .lst xs => ∃ ws, H a = some (.lst ws) /\ RvA K μ H xs ws
 | .fro xs => ∃ ws, RF K H a ws /\ RvA K μ H xs ws
 | .dic kvs => ∃ kws, H a = some (.dK kws) /\ Rk K μ H kvs kws
 | .dit kvs => ∃ kws, H a = some (.dT kws) /\ Rk K μ H kvs kws
 | .fdi kvs => ∃ o kws, H a = some (.frz o (.dK kws)) /\ Rk K μ H kvs kws
 | .fdt kvs => ∃ o kws, H a = some (.frz o (.dT kws)) /\ Rk K μ H kvs kws
 | .ist S => H a = some (SetO T.w a (fun i => decide (i ∈ S)) S.length) /\ S.Nodup
structure RM (K : PySem.W.Frag) (T : Tb) (μ : List Addr) (H : Hp) (M : Mem) : Prop where
 len : μ.length = M.length
 ob : ∀ (k : Nat) (o : Ob) (a : Addr), M[k]? = some o -> μ[k]? = some a -> Ro K T μ H a o
 inj : ∀ (j k : Nat) (a : Addr) (o o' : Ob), M[j]? = some o -> M[k]? = some o' -> o.mut = true -> o'.mut = true -> μ[j]? = some a -> μ[k]? = some a -> j = k
def Tabs (T : Tb) (H : Hp) : Prop := ∀ P ∈ T, TabG H P
structure RS (K : PySem.W.Frag) (T : Tb) (μ : List Addr) (H : Hp) (M : Mem) : Prop where
 mem : RM K T μ H M
 tab : Tabs T H
theorem app_get {α : Type} {l : List α} {x : α} {k : Nat} {y : α} (h : (l ++ [x])[k]? = some y) : (k < l.length /\ l[k]? = some y) \/ (k = l.length /\ y = x) := by
 by_cases hk : k < l.length
 ·rw [List.getElem?_append_left hk] at h
  exact .inl ⟨hk, h⟩
 ·have h1 := (List.getElem?_eq_some_iff.mp h).1
  simp at h1
  have : k = l.length := by omega
  subst this
  simp at h
  exact .inr ⟨rfl, h.symm⟩
section
variable {K : PySem.W.Frag} {T : Tb} {μ : List Addr} {H H' : Hp} {M : Mem}
def NoSt (u : HO) : Prop := (∀ xs, u ≠ .tup xs) /\ (∀ o' u', u ≠ .frz o' u') /\ ∀ ps, u ≠ .tbl ps
theorem Ro.tracked {a : Addr} {o : Ob} (r : Ro K T μ H a o) (hm : o.mut = true) : ∃ u, H a = some u /\ NoSt u := by
 cases o with
 | lst xs => obtain ⟨ws, h, _⟩ := r; exact ⟨_, h, fun _ z => (by cases z), fun _ _ z => (by cases z), fun _ z => (by cases z)⟩
 | dic kvs => obtain ⟨ws, h, _⟩ := r; exact ⟨_, h, fun _ z => (by cases z), fun _ _ z => (by cases z), fun _ z => (by cases z)⟩
 | dit kvs => obtain ⟨ws, h, _⟩ := r; exact ⟨_, h, fun _ z => (by cases z), fun _ _ z => (by cases z), fun _ z => (by cases z)⟩
 | ist S => obtain ⟨h, _⟩ := r; exact ⟨_, h, fun _ z => (by cases z), fun _ _ z => (by cases z), fun _ z => (by cases z)⟩
 | fro xs => cases hm
 | fdi xs => cases hm
 | fdt xs => cases hm
/-- a heap that differs only by tables and by new things -/
structure Grow (T : Tb) (H H' : Hp) : Prop where
 keep : ∀ b o, H b = some o -> (∀ ps, o ≠ .tbl ps) -> H' b = some o
 tab : Tabs T H'
theorem Grow.ext (g : Grow T H H') : Ext μ H μ H' := ⟨⟨[], by simp⟩, fun b xs h => g.keep b _ h fun _ z => (by cases z), fun b o u h => g.keep b _ h fun _ z => (by cases z)⟩
theorem Ro.mono {μ' : List Addr} {a : Addr} {o : Ob} (r : Ro K T μ H a o) (e : Ext μ H μ' H') (h : o.mut = true -> H' a = H a) : Ro K T μ' H' a o := by
 cases o with
 | lst xs => obtain ⟨ws, h1, rv⟩ := r; exact ⟨ws, (h rfl).trans h1, rv.ext e⟩
 | fro xs => obtain ⟨ws, h1, rv⟩ := r; exact ⟨ws, h1.ext e, rv.ext e⟩
 | dic kvs => obtain ⟨ws, h1, rv⟩ := r; exact ⟨ws, (h rfl).trans h1, rv.1, rv.2.ext e⟩
 | dit kvs => obtain ⟨ws, h1, rv⟩ := r; exact ⟨ws, (h rfl).trans h1, rv.1, rv.2.ext e⟩
 | ist S => obtain ⟨h1, rv⟩ := r; exact ⟨(h rfl).trans h1, rv⟩
 | fdi kvs => obtain ⟨o, ws, h1, rv⟩ := r; exact ⟨o, ws, e.frz _ _ _ h1, rv.1, rv.2.ext e⟩
 | fdt kvs => obtain ⟨o, ws, h1, rv⟩ := r; exact ⟨o, ws, e.frz _ _ _ h1, rv.1, rv.2.ext e⟩
theorem RS.grow (r : RS K T μ H M) (g : Grow T H H') : RS K T μ H' M := by
 refine ⟨⟨r.mem.len, fun k o a h1 h2 => ?_, r.mem.inj⟩, g.tab⟩
 have q := r.mem.ob k o a h1 h2
 refine q.mono g.ext fun hm => ?_
 obtain ⟨u, h, n⟩ := q.tracked hm
 rw [h]
 exact g.keep _ _ h n.2.2
theorem RS.new {p : Addr} {u : HO} (r : RS K T μ H M) (np : H p = none) : Grow T H (upd H p u) := by
 refine ⟨fun b o h _ => by rw [upd_ne (ne_of_none h np)]; exact h, fun P hP => ?_⟩
 obtain ⟨ps, h, t⟩ := r.tab P hP
 exact ⟨ps, by rw [upd_ne (ne_of_none h np)]; exact h, t⟩
/-- a new tuple -/
theorem RS.tup {p : Addr} {xs : List Vl} {ws : List V} (r : RS K T μ H M) (np : H p = none) (rv : RvA K μ H xs ws) : RS K T μ (upd H p (.tup ws)) M /\ Ext μ H μ (upd H p (.tup ws)) /\ Rv K μ (upd H p (.tup ws)) (.tup .trk xs) (.ref p) :=
 ⟨r.grow (r.new np), (r.new np).ext, .tup (SqT.of upd_same) (rv.ext (r.new np).ext) upd_same⟩
/-- .. known to have no dict -/
theorem RS.tupN {p : Addr} {o : Obj} {xs : List Vl} {ws : List V} (r : RS K T μ H M) (np : H p = none) (rv : RvA K μ H xs ws) (ho : o.dict = none) : RS K T μ (upd H p (.frz o (.tup ws))) M /\ Ext μ H μ (upd H p (.frz o (.tup ws))) /\ Rv K μ (upd H p (.frz o (.tup ws))) (.tup .nod xs) (.ref p) :=
 ⟨r.grow (r.new np), (r.new np).ext, .tup (.inl (.inr ⟨o, upd_same⟩)) (rv.ext (r.new np).ext) ⟨o, _, upd_same, ho⟩⟩
/-- a new mutable object -/
theorem RS.alloc {p : Addr} {u : HO} {o : Ob} (r : RS K T μ H M) (np : H p = none) (ho : Ext μ H (μ ++ [p]) (upd H p u) -> Ro K T (μ ++ [p]) (upd H p u) p o) :
  RS K T (μ ++ [p]) (upd H p u) (M ++ [o]) /\ Ext μ H (μ ++ [p]) (upd H p u) /\ Rv K (μ ++ [p]) (upd H p u) (.ref M.length) (.ref p) := by
 have g := r.new (u := u) np
 have e : Ext μ H (μ ++ [p]) (upd H p u) := ⟨⟨[p], rfl⟩, (g.ext (μ := μ)).tup, (g.ext (μ := μ)).frz⟩
 have hlen := r.mem.len
 refine ⟨⟨⟨by simp [hlen], fun k o' a h1 h2 => ?_, fun j k a o1 o2 h1 h2 m1 m2 h3 h4 => ?_⟩, g.tab⟩, e, .ref (by rw [<- hlen]; simp)⟩
 ·rcases app_get h1 with ⟨hk, h1⟩ | ⟨hk, rfl⟩
  ·rw [List.getElem?_append_left (by omega)] at h2
   have q := r.mem.ob k o' a h1 h2
   refine q.mono e fun hm => ?_
   obtain ⟨u', h, n⟩ := q.tracked hm
   rw [h]
   exact g.keep _ _ h n.2.2
  ·rw [hk, <- hlen] at h2
   simp at h2
   subst h2
   exact ho e
 ·rcases app_get h1 with ⟨hj, g1⟩ | ⟨hj, e1⟩ <;> rcases app_get h2 with ⟨hk, g2⟩ | ⟨hk, e2⟩
  ·rw [List.getElem?_append_left (by omega)] at h3 h4
   exact r.mem.inj j k a o1 o2 g1 g2 m1 m2 h3 h4
  ·rw [hk, <- hlen] at h4
   rw [List.getElem?_append_left (by omega)] at h3
   simp at h4
   obtain ⟨u', h, _⟩ := (r.mem.ob j o1 a g1 h3).tracked m1
   rw [<- h4, np] at h
   cases h
  ·rw [hj, <- hlen] at h3
   rw [List.getElem?_append_left (by omega)] at h4
   simp at h3
   obtain ⟨u', h, _⟩ := (r.mem.ob k o2 a g2 h4).tracked m2
   rw [<- h3, np] at h
   cases h
  ·omega
/-- a mutable object written -/
theorem RS.write {k : Nat} {a : Addr} {u : HO} {o o' : Ob} (r : RS K T μ H M) (h1 : M[k]? = some o) (hm : o.mut = true) (h2 : μ[k]? = some a) (hu : NoSt u) (hm' : o'.mut = true) (ho : Ext μ H μ (upd H a u) -> Ro K T μ (upd H a u) a o') :
  RS K T μ (upd H a u) (M.set k o') /\ Ext μ H μ (upd H a u) := by
 obtain ⟨u0, h0, n0⟩ := (r.mem.ob k o a h1 h2).tracked hm
 have ne : ∀ b v, H b = some v -> ¬ NoSt v -> b ≠ a := fun b v h n z => by
  rw [z, h0] at h
  cases h
  exact n n0
 have e : Ext μ H μ (upd H a u) := ⟨⟨[], by simp⟩, fun b xs h => by rw [upd_ne (ne b _ h fun z => z.1 _ rfl)]; exact h, fun b o u h => by rw [upd_ne (ne b _ h fun z => z.2.1 _ _ rfl)]; exact h⟩
 have hk := (List.getElem?_eq_some_iff.mp h1).1
 refine ⟨⟨⟨by rw [List.length_set]; exact r.mem.len, fun j oj b g1 g2 => ?_, fun i j b o1 o2 g1 g2 m1 m2 g3 g4 => ?_⟩, fun P hP => ?_⟩, e⟩
 ·by_cases hj : j = k
  ·subst hj
   rw [List.getElem?_set_self hk] at g1
   cases g1
   rw [h2] at g2
   cases g2
   exact ho e
  ·rw [List.getElem?_set_ne (Ne.symm hj)] at g1
   refine (r.mem.ob j oj b g1 g2).mono e fun hmj => upd_ne fun z => ?_
   subst z
   exact hj (r.mem.inj j k b oj o g1 h1 hmj hm g2 h2)
 ·have back : ∀ {i : Nat} {oi : Ob}, (M.set k o')[i]? = some oi -> oi.mut = true -> ∃ oo, M[i]? = some oo /\ oo.mut = true := fun {i oi} g m => by
   by_cases hi : i = k
   ·exact ⟨o, by rw [hi]; exact h1, hm⟩
   ·rw [List.getElem?_set_ne (Ne.symm hi)] at g
    exact ⟨oi, g, m⟩
  obtain ⟨p1, q1, q2⟩ := back g1 m1
  obtain ⟨p2, q3, q4⟩ := back g2 m2
  exact r.mem.inj i j b p1 p2 q1 q3 q2 q4 g3 g4
 ·obtain ⟨ps, h, t⟩ := r.tab P hP
  exact ⟨ps, by rw [upd_ne (ne P _ h fun z => z.2.2 _ rfl)]; exact h, t⟩
end
abbrev Fe := Env -> Mem -> Option (Vl × Mem)
abbrev Ft := Env -> Mem -> Option (Bool × Mem)
abbrev Fa := Env -> Mem -> Option (List Vl × Mem)
inductive Out where
 | nx | rt (v : Vl) | bk | ct
abbrev Fs := Env -> Mem -> Option (Out × Env × Mem)
/-- the slots -/
structure Rσ (K : PySem.W.Frag) (μ : List Addr) (H : Hp) (ρ : Env) (σ : L2.St) : Prop where
 len : ρ.length = σ.length
 at_ : ∀ (i : Nat) (v : Vl), ρ[i]? = some (some v) -> ∃ w, σ[i]? = some (some w) /\ Rv K μ H v w
theorem Rσ.ext {K : PySem.W.Frag} {μ μ' : List Addr} {H H' : Hp} {ρ : Env} {σ : L2.St} (r : Rσ K μ H ρ σ) (e : Ext μ H μ' H') : Rσ K μ' H' ρ σ :=
 ⟨r.len, fun i v h => let ⟨w, h1, h2⟩ := r.at_ i v h; ⟨w, h1, h2.ext e⟩⟩
theorem Rσ.set {K : PySem.W.Frag} {μ : List Addr} {H : Hp} {ρ : Env} {σ : L2.St} {i : Nat} {v : Vl} {w : V} (r : Rσ K μ H ρ σ) (h : Rv K μ H v w) : Rσ K μ H (ρ.set i (some v)) (σ.set i (some w)) := by
 refine ⟨by simp [r.len], fun j u e => ?_⟩
 by_cases hj : i = j
 ·subst hj
  rw [List.getElem?_set] at e
  simp at e
  obtain ⟨e1, e2⟩ := e
  subst e2
  refine ⟨w, ?_, h⟩
  rw [List.getElem?_set_self (by rw [<- r.len]; exact e1)]
 ·rw [List.getElem?_set_ne hj] at e
  rw [List.getElem?_set_ne hj]
  exact r.at_ j u e
def SemE (K : PySem.W.Frag) (T : Tb) (te : TE) (f : Fe) : Prop := ∀ (σ : L2.St) (H : Hp) (μ : List Addr) (ρ : Env) (M : Mem) (v : Vl) (M' : Mem) (Q : VK), f ρ M = some (v, M') -> Rσ K μ H ρ σ -> RS K T μ H M ->
 (∀ w μ' H', Ext μ H μ' H' -> Rv K μ' H' v w -> RS K T μ' H' M' -> Q w H') -> te σ H Q
def SemT (K : PySem.W.Frag) (T : Tb) (tt : TT) (f : Ft) : Prop := ∀ (σ : L2.St) (H : Hp) (μ : List Addr) (ρ : Env) (M : Mem) (b : Bool) (M' : Mem) (Q : Bool -> Hp -> Prop), f ρ M = some (b, M') -> Rσ K μ H ρ σ -> RS K T μ H M ->
 (∀ μ' H', Ext μ H μ' H' -> RS K T μ' H' M' -> Q b H') -> tt σ H Q
def SemA (K : PySem.W.Frag) (T : Tb) (ta : TA) (f : Fa) : Prop := ∀ (σ : L2.St) (H : Hp) (μ : List Addr) (ρ : Env) (M : Mem) (vs : List Vl) (M' : Mem) (Q : List V -> Hp -> Prop), f ρ M = some (vs, M') -> Rσ K μ H ρ σ -> RS K T μ H M ->
 (∀ ws μ' H', Ext μ H μ' H' -> RvA K μ' H' vs ws -> RS K T μ' H' M' -> Q ws H') -> ta σ H Q
def EndOk (K : PySem.W.Frag) (T : Tb) (μ : List Addr) (H : Hp) (D : Ends) : Out -> Env -> Mem -> Prop
 | .nx, ρ', M' => ∀ σ' μ' H', Ext μ H μ' H' -> Rσ K μ' H' ρ' σ' -> RS K T μ' H' M' -> D.nx σ' H'
 | .rt v, _, M' => ∀ w μ' H', Ext μ H μ' H' -> Rv K μ' H' v w -> RS K T μ' H' M' -> D.rt w H'
 | .bk, ρ', M' => ∀ σ' μ' H', Ext μ H μ' H' -> Rσ K μ' H' ρ' σ' -> RS K T μ' H' M' -> D.bk σ' H'
 | .ct, ρ', M' => ∀ σ' μ' H', Ext μ H μ' H' -> Rσ K μ' H' ρ' σ' -> RS K T μ' H' M' -> D.ct σ' H'
def SemS (K : PySem.W.Frag) (T : Tb) (ts : TS) (f : Fs) : Prop := ∀ (σ : L2.St) (H : Hp) (μ : List Addr) (ρ : Env) (M : Mem) (o : Out) (ρ' : Env) (M' : Mem) (D : Ends), f ρ M = some (o, ρ', M') -> Rσ K μ H ρ σ -> RS K T μ H M ->
 EndOk K T μ H D o ρ' M' -> ts D σ H
theorem EndOk.ext {K : PySem.W.Frag} {T : Tb} {μ μ' : List Addr} {H H' : Hp} {D : Ends} {o : Out} {ρ : Env} {M : Mem} (h : EndOk K T μ H D o ρ M) (e : Ext μ H μ' H') : EndOk K T μ' H' D o ρ M := by
 cases o with
 | nx => exact fun σ' μ2 H2 e2 => h σ' μ2 H2 (e.trans e2)
 | rt v => exact fun σ' μ2 H2 e2 => h σ' μ2 H2 (e.trans e2)
 | bk => exact fun σ' μ2 H2 e2 => h σ' μ2 H2 (e.trans e2)
 | ct => exact fun σ' μ2 H2 e2 => h σ' μ2 H2 (e.trans e2)
def eVar (i : Nat) : Fe := fun ρ M => match ρ[i]? with
 | some (some v) => some (v, M)
 | _ => none
def eC (v : Vl) : Fe := fun _ M => some (v, M)
def e2 (op : Vl -> Vl -> Mem -> Option (Vl × Mem)) (fa fb : Fe) : Fe := fun ρ M => match fa ρ M with
 | some (a, M1) => match fb ρ M1 with
  | some (b, M2) => op a b M2
  | none => none
 | none => none
def aNil : Fa := fun _ M => some ([], M)
def aCons (f : Fe) (g : Fa) : Fa := fun ρ M => match f ρ M with
 | some (v, M1) => match g ρ M1 with
  | some (vs, M2) => some (v :: vs, M2)
  | none => none
 | none => none
def eA (op : List Vl -> Mem -> Option (Vl × Mem)) (g : Fa) : Fe := fun ρ M => match g ρ M with
 | some (vs, M1) => op vs M1
 | none => none
def eAnd (f g : Fe) : Fe := fun ρ M => match f ρ M with
 | some (.bl true, M1) => g ρ M1
 | some (.bl false, M1) => some (.bl false, M1)
 | _ => none
def eIf (t : Ft) (f g : Fe) : Fe := fun ρ M => match t ρ M with
 | some (true, M1) => f ρ M1
 | some (false, M1) => g ρ M1
 | none => none
def tV (f : Fe) : Ft := fun ρ M => match f ρ M with
 | some (.bl b, M1) => some (b, M1)
 | _ => none
def tAn (f g : Ft) : Ft := fun ρ M => match f ρ M with
 | some (true, M1) => g ρ M1
 | some (false, M1) => some (false, M1)
 | none => none
def tO (f g : Ft) : Ft := fun ρ M => match f ρ M with
 | some (false, M1) => g ρ M1
 | some (true, M1) => some (true, M1)
 | none => none
def tN (f : Ft) : Ft := fun ρ M => match f ρ M with
 | some (b, M1) => some (!b, M1)
 | none => none
def sNil : Fs := fun ρ M => some (.nx, ρ, M)
def sCons (f g : Fs) : Fs := fun ρ M => match f ρ M with
 | some (.nx, ρ1, M1) => g ρ1 M1
 | r => r
def sRet (f : Fe) : Fs := fun ρ M => match f ρ M with
 | some (v, M1) => some (.rt v, ρ, M1)
 | none => none
def sEx (f : Fe) : Fs := fun ρ M => match f ρ M with
 | some (_, M1) => some (.nx, ρ, M1)
 | none => none
def sIf (t : Ft) (f g : Fs) : Fs := fun ρ M => match t ρ M with
 | some (true, M1) => f ρ M1
 | some (false, M1) => g ρ M1
 | none => none
theorem Rv.anyT {K : PySem.W.Frag} {μ : List Addr} {H : Hp} {d : Tk} {xs : List Vl} {w : V} (r : Rv K μ H (.tup d xs) w) : Rv K μ H (.tup .any xs) w := by
 cases r with
 | tup a b c => exact .tup a b trivial
end Sh
namespace Sh
open PySem PySem.Spec PyProof.Rows L2 NdefX GenE
open GxR (TabB TabG Tabbed)
/-- a family of contexts: the same def, the same names; T the tables of code objects -/
structure Fam where
 ι : Type
 X : ι -> Cx
 K : PySem.W.Frag
 mg : Str -> Option Value
 base : Heap
 prog : Program
 w : World
 N : List Str
 sc : Scope
 lv : Nat
 T : Tb
 code : Option Value
 hK : ∀ i, (X i).K = K
 hmg : ∀ i, (X i).mg = mg
 hbase : ∀ i, (X i).base = base
 hprog : ∀ i, (X i).prog = prog
 hw : ∀ i, (X i).w = w
 hN : ∀ i, (X i).N = N
 hsc : ∀ i, (X i).env.scope = sc
 hr : ∀ i, Room lv (X i).A
 hcalm : ∀ i, (X i).calm = true
 hcode : ∀ c, code = some c -> ∀ i, (X i).env.code = c
 fn : Bool
 hfn : fn = true -> ∀ i x, (X i).fn x = true
 hTw : T.w = w
 hp : ∀ i, PassesOwn (model (X i).prog (X i).w) (X i).A (X i).env (X i).xe
section
variable {F : Fam}
def SE (F : Fam) (e : Expr) (f : Fe) : Prop := ∃ te, (∀ i, PE (F.X i) e te) /\ SemE F.K F.T te f
def ST (F : Fam) (e : Expr) (f : Ft) : Prop := ∃ tt, (∀ i, PT (F.X i) e tt) /\ SemT F.K F.T tt f
def SW (F : Fam) (e : Expr) (f : Ft) : Prop := ∃ tt, (∀ i, PW (F.X i) e tt) /\ SemT F.K F.T tt f
def SA (F : Fam) (es : List Expr) (f : Fa) : Prop := (∃ ta, (∀ i, PA (F.X i) es ta) /\ SemA F.K F.T ta f) /\ ∀ ρ M vs M', f ρ M = some (vs, M') -> vs.length = es.length
def SS (F : Fam) (st : Stmt) (f : Fs) : Prop := ∃ ts, (∀ i, PS (F.X i) st ts) /\ SemS F.K F.T ts f
def SSs (F : Fam) (st : List Stmt) (f : Fs) : Prop := ∃ ts, (∀ i, PSs (F.X i) st ts) /\ SemS F.K F.T ts f
variable {e a b c : Expr} {f fa fb fc : Fe} {pos p : Pos}
theorem e2_some {op : Vl -> Vl -> Mem -> Option (Vl × Mem)} {ρ : Env} {M M' : Mem} {v : Vl} (h : e2 op fa fb ρ M = some (v, M')) : ∃ x M1 y M2, fa ρ M = some (x, M1) /\ fb ρ M1 = some (y, M2) /\ op x y M2 = some (v, M') := by
 unfold e2 at h
 split at h
 ·split at h
  ·exact ⟨_, _, _, _, by assumption, by assumption, h⟩
  ·cases h
 ·cases h
theorem se_var {x : Str} (i : Nat) (hN : F.N[i]? = some x := by rfl) (hv : Vis F.sc x := by first | exact Or.inl rfl | exact Or.inr (Or.inl rfl) | exact Or.inr (Or.inr rfl)) (hd : (x == ("__debug__" : Str)) = false := by decide)
  (hcd : (x == ("__classdict__" : Str)) = false := by decide) : SE F (.Name x pos) (eVar i) := by
 refine ⟨tVar i, fun j => pe_var (by rw [F.hN j]; exact hN) (by rw [F.hsc j]; exact hv) hd hcd, fun σ H μ ρ M v M' Q h rσ rs q => ?_⟩
 unfold eVar at h
 split at h
 ·cases h
  obtain ⟨w, h1, h2⟩ := rσ.at_ i _ (by assumption)
  exact ⟨w, h1, q w μ H (Ext.refl _ _) h2 rs⟩
 ·cases h
theorem semC {v0 : Vl} {w0 : V} (h0 : ∀ μ H, Rv F.K μ H v0 w0) : SemE F.K F.T (tC w0) (eC v0) := fun σ H μ ρ M v M' Q h _ rs q => by cases h; exact q _ μ H (Ext.refl _ _) (h0 _ _) rs
theorem se_int {i : Int} {j : Nat} : SE F (.Constant (.int i) j pos) (eC (.int i)) := ⟨_, fun _ => pe_int, semC fun _ _ => .int i⟩
theorem se_bl {b : Bool} {j : Nat} : SE F (.Constant (.bool b) j pos) (eC (.bl b)) := ⟨_, fun _ => pe_bl, semC fun _ _ => .bl b⟩
theorem se_non {j : Nat} : SE F (.Constant .none j pos) (eC .non) := ⟨_, fun _ => pe_non, semC fun _ _ => .non⟩
theorem se_str {x : Str} {j : Nat} : SE F (.Constant (.str x) j pos) (eC (.str x)) := ⟨_, fun _ => pe_str, semC fun _ _ => .str x⟩
def Glb (F : Fam) (x : Str) : Prop := F.sc.names.lookup x = some .globalImplicit
theorem Glb.gl {x : Str} (h : Glb F x) (i : F.ι) : Gl (F.X i) x := by
 show (F.X i).env.scope.names.lookup x = _
 rw [F.hsc i]
 exact h
theorem se_globI {x : Str} {i : Int} {u : Value} (hg : Glb F x) (hm : F.mg x = some u) (r : RelV (.int i) u) (hd : (x == ("__debug__" : Str)) = false := by decide) : SE F (.Name x pos) (eC (.int i)) :=
 ⟨_, fun j => pe_glob (hg.gl j) (by rw [F.hmg j]; exact hm) r hd, semC fun _ _ => .int i⟩
theorem se_globS {x : Str} {i : Str} {u : Value} (hg : Glb F x) (hm : F.mg x = some u) (r : RelV (.str i) u) (hd : (x == ("__debug__" : Str)) = false := by decide) : SE F (.Name x pos) (eC (.str i)) :=
 ⟨_, fun j => pe_glob (hg.gl j) (by rw [F.hmg j]; exact hm) r hd, semC fun _ _ => .str i⟩
/-- an operation on two values, on a list of values -/
def Sem2 (K : PySem.W.Frag) (T : Tb) (r : R2) (op : Vl -> Vl -> Mem -> Option (Vl × Mem)) : Prop := ∀ (H : Hp) (μ : List Addr) (M : Mem) (x y : Vl) (wx wy : V) (v : Vl) (M' : Mem) (Q : VK), op x y M = some (v, M') -> Rv K μ H x wx -> Rv K μ H y wy -> RS K T μ H M ->
 (∀ w μ' H', Ext μ H μ' H' -> Rv K μ' H' v w -> RS K T μ' H' M' -> Q w H') -> r wx wy H Q
def SemL (K : PySem.W.Frag) (T : Tb) (r : List V -> Hp -> VK -> Prop) (op : List Vl -> Mem -> Option (Vl × Mem)) : Prop := ∀ (H : Hp) (μ : List Addr) (M : Mem) (xs : List Vl) (ws : List V) (v : Vl) (M' : Mem) (Q : VK), op xs M = some (v, M') -> RvA K μ H xs ws -> RS K T μ H M ->
 (∀ w μ' H', Ext μ H μ' H' -> Rv K μ' H' v w -> RS K T μ' H' M' -> Q w H') -> r ws H Q
theorem semOp {r : R2} {op : Vl -> Vl -> Mem -> Option (Vl × Mem)} {ta tb : TE} (ho : Sem2 F.K F.T r op) (ha : SemE F.K F.T ta fa) (hb : SemE F.K F.T tb fb) : SemE F.K F.T (tOp r ta tb) (e2 op fa fb) := by
 intro σ H μ ρ M v M' Q h rσ rs q
 obtain ⟨x, M1, y, M2, h1, h2, h3⟩ := e2_some h
 refine ha σ H μ ρ M x M1 _ h1 rσ rs fun w1 μ1 H1 e1 r1 s1 => ?_
 refine hb σ H1 μ1 ρ M1 y M2 _ h2 (rσ.ext e1) s1 fun w2 μ2 H2 e2 r2 s2 => ?_
 exact ho H2 μ2 M2 x y w1 w2 v M' _ h3 (r1.ext e2) r2 s2 fun w3 μ3 H3 e3 r3 s3 => q w3 μ3 H3 ((e1.trans e2).trans e3) r3 s3
/-- an operator: its rule and its function -/
structure Op2 (F : Fam) (g : Value -> Value -> Sem Value) (op : Vl -> Vl -> Mem -> Option (Vl × Mem)) : Prop where
 ex : ∃ r : R2, (∀ i, OpR (F.X i) g r) /\ Sem2 F.K F.T r op
theorem se_bin {o : Operator} {op : Vl -> Vl -> Mem -> Option (Vl × Mem)} (hr : Op2 F (binaryOp o) op) (ha : SE F a fa) (hb : SE F b fb) : SE F (.BinOp a o b pos) (e2 op fa fb) := by
 obtain ⟨r, hr, ho⟩ := hr.ex
 obtain ⟨ta, pa, sa⟩ := ha
 obtain ⟨tb, pb, sb⟩ := hb
 exact ⟨_, fun i => pe_op (hr i) (pa i) (pb i), semOp ho sa sb⟩
theorem se_cmp {o : CmpOp} {op : Vl -> Vl -> Mem -> Option (Vl × Mem)} (hr : Op2 F (compareOp o) op) (ha : SE F a fa) (hb : SE F b fb) (hm : behindInMarks o b = false := by rfl) : SE F (.Compare a [o] [b] pos) (e2 op fa fb) := by
 obtain ⟨r, hr, ho⟩ := hr.ex
 obtain ⟨ta, pa, sa⟩ := ha
 obtain ⟨tb, pb, sb⟩ := hb
 exact ⟨_, fun i => pe_cmpR (hr i) (pa i) (pb i) hm, semOp ho sa sb⟩
theorem semTest {t : TE} (h : SemE F.K F.T t f) : SemT F.K F.T (tTest t) (tV f) := by
 intro σ H μ ρ M b M' Q h1 rσ rs q
 unfold tV at h1
 split at h1
 ·cases h1
  exact h σ H μ ρ M _ _ _ (by assumption) rσ rs fun w μ' H' e r s => by
   cases r
   exact ⟨_, rfl, q μ' H' e s⟩
 ·cases h1
theorem semTestB {t : TE} (h : SemE F.K F.T t f) : SemT F.K F.T (tB t) (tV f) := semTest h
theorem st_cmp {o : CmpOp} {op : Vl -> Vl -> Mem -> Option (Vl × Mem)} (hr : Op2 F (compareOp o) op) (ha : SE F a fa) (hb : SE F b fb) (hm : behindInMarks o b = false := by rfl) : ST F (.Compare a [o] [b] pos) (tV (e2 op fa fb)) := by
 obtain ⟨r, hr, ho⟩ := hr.ex
 obtain ⟨ta, pa, sa⟩ := ha
 obtain ⟨tb, pb, sb⟩ := hb
 exact ⟨_, fun i => pt_cmpR (hr i) (pa i) (pb i) hm, semTest (semOp ho sa sb)⟩
theorem st_val (h : SE F e f) (he : ∀ env whole, isTrue e env whole = (do let v <- whole; standAt e.pos; holding [v] (truthy v)) := by intro _ _; rfl) : ST F e (tV f) := by
 obtain ⟨te, p, s⟩ := h
 exact ⟨_, fun i => pt_val (p i) (he _), semTestB s⟩
/-- x op y op' z -/
def e3 (op op' : Vl -> Vl -> Mem -> Option (Vl × Mem)) (fa fb fc : Fe) : Fe := fun ρ M => match fa ρ M with
 | some (a, M1) => match fb ρ M1 with
  | some (b, M2) => match op a b M2 with
   | some (.bl true, M3) => match fc ρ M3 with
    | some (c, M4) => op' b c M4
    | none => none
   | some (.bl false, M3) => some (.bl false, M3)
   | _ => none
  | none => none
 | none => none
theorem semChain {r r' : R2} {op op' : Vl -> Vl -> Mem -> Option (Vl × Mem)} {ta tb tc : TE} (ho : Sem2 F.K F.T r op) (ho' : Sem2 F.K F.T r' op') (ha : SemE F.K F.T ta fa) (hb : SemE F.K F.T tb fb) (hc : SemE F.K F.T tc fc) :
  SemE F.K F.T (tChain r r' ta tb tc) (e3 op op' fa fb fc) := by
 intro σ H μ ρ M v M' Q h rσ rs q
 unfold e3 at h
 split at h
 ·split at h
  ·rename_i _ x M1 h1 _ y M2 h2
   refine ha σ H μ ρ M x M1 _ h1 rσ rs fun w1 μ1 H1 e1 r1 s1 => ?_
   refine hb σ H1 μ1 ρ M1 y M2 _ h2 (rσ.ext e1) s1 fun w2 μ2 H2 e2 r2 s2 => ?_
   split at h
   ·rename_i _ M3 h3
    refine ho H2 μ2 M2 x y w1 w2 _ M3 _ h3 (r1.ext e2) r2 s2 fun w3 μ3 H3 e3 r3 s3 => ?_
    cases r3
    refine ⟨true, rfl, ?_⟩
    rw [if_pos rfl]
    split at h
    ·rename_i _ z M4 h4
     refine hc σ H3 μ3 ρ M3 z M4 _ h4 (rσ.ext ((e1.trans e2).trans e3)) s3 fun w4 μ4 H4 e4 r4 s4 => ?_
     exact ho' H4 μ4 M4 y z w2 w4 v M' _ h (r2.ext (e3.trans e4)) r4 s4 fun w5 μ5 H5 e5 r5 s5 => q w5 μ5 H5 ((((e1.trans e2).trans e3).trans e4).trans e5) r5 s5
    ·cases h
   ·rename_i _ M3 h3
    cases h
    refine ho H2 μ2 M2 x y w1 w2 _ _ _ h3 (r1.ext e2) r2 s2 fun w3 μ3 H3 e3 r3 s3 => ?_
    cases r3
    refine ⟨false, rfl, ?_⟩
    rw [if_neg (by simp)]
    exact q _ μ3 H3 ((e1.trans e2).trans e3) (.bl false) s3
   ·cases h
  ·cases h
 ·cases h
theorem se_chain {o o' : CmpOp} {op op' : Vl -> Vl -> Mem -> Option (Vl × Mem)} (hr : Op2 F (compareOp o) op) (hr' : Op2 F (compareOp o') op') (ha : SE F a fa) (hb : SE F b fb) (hc : SE F c fc) (hm : lastMarks [o, o'] [b, c] = false := by with_unfolding_all rfl) :
  SE F (.Compare a [o, o'] [b, c] pos) (e3 op op' fa fb fc) := by
 obtain ⟨r, hr, ho⟩ := hr.ex
 obtain ⟨r', hr', ho'⟩ := hr'.ex
 obtain ⟨ta, pa, sa⟩ := ha
 obtain ⟨tb, pb, sb⟩ := hb
 obtain ⟨tc, pc, sc⟩ := hc
 exact ⟨_, fun i => pe_chain (hr i) (hr' i) (pa i) (pb i) (pc i) hm, semChain ho ho' sa sb sc⟩
theorem st_chain {o o' : CmpOp} {op op' : Vl -> Vl -> Mem -> Option (Vl × Mem)} (hr : Op2 F (compareOp o) op) (hr' : Op2 F (compareOp o') op') (ha : SE F a fa) (hb : SE F b fb) (hc : SE F c fc) (hm : lastMarks [o, o'] [b, c] = false := by with_unfolding_all rfl) :
  ST F (.Compare a [o, o'] [b, c] pos) (tV (e3 op op' fa fb fc)) := by
 obtain ⟨r, hr, ho⟩ := hr.ex
 obtain ⟨r', hr', ho'⟩ := hr'.ex
 obtain ⟨ta, pa, sa⟩ := ha
 obtain ⟨tb, pb, sb⟩ := hb
 obtain ⟨tc, pc, sc⟩ := hc
 exact ⟨_, fun i => pt_chain (hr i) (hr' i) (pa i) (pb i) (pc i) hm, semTest (semChain ho ho' sa sb sc)⟩
variable {t u : Ft} {rest : List Expr}
theorem se_one {op} (h : SE F a fa) : SE F (.BoolOp op [a] pos) fa := by
 obtain ⟨ta, pa, sa⟩ := h
 exact ⟨_, fun i => pe_one (pa i), sa⟩
theorem se_and (ha : SE F a fa) (hb : SE F (.BoolOp .And (b :: rest) pos) fb) : SE F (.BoolOp .And (a :: b :: rest) pos) (eAnd fa fb) := by
 obtain ⟨ta, pa, sa⟩ := ha
 obtain ⟨tb, pb, sb⟩ := hb
 refine ⟨_, fun i => pe_and (pa i) (pb i), fun σ H μ ρ M v M' Q h rσ rs q => ?_⟩
 unfold eAnd at h
 split at h
 ·refine sa σ H μ ρ M _ _ _ (by assumption) rσ rs fun w1 μ1 H1 e1 r1 s1 => ?_
  cases r1
  refine ⟨true, rfl, ?_⟩
  rw [if_pos rfl]
  exact sb σ H1 μ1 ρ _ v M' _ h (rσ.ext e1) s1 fun w2 μ2 H2 e2 r2 s2 => q w2 μ2 H2 (e1.trans e2) r2 s2
 ·cases h
  refine sa σ H μ ρ M _ _ _ (by assumption) rσ rs fun w1 μ1 H1 e1 r1 s1 => ?_
  cases r1
  refine ⟨false, rfl, ?_⟩
  rw [if_neg (by simp)]
  exact q _ μ1 H1 e1 (.bl false) s1
 ·cases h
theorem se_if (hc : ST F c t) (ha : SE F a fa) (hb : SE F b fb) : SE F (.IfExp c a b pos) (eIf t fa fb) := by
 obtain ⟨tc, pc, sc⟩ := hc
 obtain ⟨ta, pa, sa⟩ := ha
 obtain ⟨tb, pb, sb⟩ := hb
 refine ⟨_, fun i => pe_ifExp (pc i) (pa i) (pb i), fun σ H μ ρ M v M' Q h rσ rs q => ?_⟩
 unfold eIf at h
 split at h
 ·refine sc σ H μ ρ M _ _ _ (by assumption) rσ rs fun μ1 H1 e1 s1 => ?_
  show (if true = true then _ else _)
  rw [if_pos rfl]
  exact sa σ H1 μ1 ρ _ v M' _ h (rσ.ext e1) s1 fun w2 μ2 H2 e2 r2 s2 => q w2 μ2 H2 (e1.trans e2) r2 s2
 ·refine sc σ H μ ρ M _ _ _ (by assumption) rσ rs fun μ1 H1 e1 s1 => ?_
  show (if false = true then _ else _)
  rw [if_neg (by simp)]
  exact sb σ H1 μ1 ρ _ v M' _ h (rσ.ext e1) s1 fun w2 μ2 H2 e2 r2 s2 => q w2 μ2 H2 (e1.trans e2) r2 s2
 ·cases h
theorem SW.st (h : SW F e t) : ST F e t := by
 obtain ⟨tt, p, s⟩ := h
 exact ⟨tt, fun i => (p i).pt, s⟩
theorem sw_and1 (h : ST F a t) : SW F (.BoolOp .And [a] pos) t := by
 obtain ⟨tt, p, s⟩ := h
 exact ⟨tt, fun i => pw_and1 (p i), s⟩
theorem sw_or1 (h : ST F a t) : SW F (.BoolOp .Or [a] pos) t := by
 obtain ⟨tt, p, s⟩ := h
 exact ⟨tt, fun i => pw_or1 (p i), s⟩
theorem sw_and (ha : ST F a t) (hb : SW F (.BoolOp .And (b :: rest) pos) u) : SW F (.BoolOp .And (a :: b :: rest) pos) (tAn t u) := by
 obtain ⟨ta, pa, sa⟩ := ha
 obtain ⟨tb, pb, sb⟩ := hb
 refine ⟨_, fun i => pw_and (pa i) (pb i), fun σ H μ ρ M v M' Q h rσ rs q => ?_⟩
 unfold tAn at h
 split at h
 ·refine sa σ H μ ρ M _ _ _ (by assumption) rσ rs fun μ1 H1 e1 s1 => ?_
  show (if true = true then _ else _)
  rw [if_pos rfl]
  exact sb σ H1 μ1 ρ _ v M' _ h (rσ.ext e1) s1 fun μ2 H2 e2 s2 => q μ2 H2 (e1.trans e2) s2
 ·cases h
  refine sa σ H μ ρ M _ _ _ (by assumption) rσ rs fun μ1 H1 e1 s1 => ?_
  show (if false = true then _ else _)
  rw [if_neg (by simp)]
  exact q μ1 H1 e1 s1
 ·cases h
theorem sw_or (ha : ST F a t) (hb : SW F (.BoolOp .Or (b :: rest) pos) u) : SW F (.BoolOp .Or (a :: b :: rest) pos) (tO t u) := by
 obtain ⟨ta, pa, sa⟩ := ha
 obtain ⟨tb, pb, sb⟩ := hb
 refine ⟨_, fun i => pw_or (pa i) (pb i), fun σ H μ ρ M v M' Q h rσ rs q => ?_⟩
 unfold tO at h
 split at h
 ·refine sa σ H μ ρ M _ _ _ (by assumption) rσ rs fun μ1 H1 e1 s1 => ?_
  show (if false = true then _ else _)
  rw [if_neg (by simp)]
  exact sb σ H1 μ1 ρ _ v M' _ h (rσ.ext e1) s1 fun μ2 H2 e2 s2 => q μ2 H2 (e1.trans e2) s2
 ·cases h
  refine sa σ H μ ρ M _ _ _ (by assumption) rσ rs fun μ1 H1 e1 s1 => ?_
  show (if true = true then _ else _)
  rw [if_pos rfl]
  exact q μ1 H1 e1 s1
 ·cases h
theorem st_not (ha : ST F a t) : ST F (.UnaryOp .Not a pos) (tN t) := by
 obtain ⟨ta, pa, sa⟩ := ha
 refine ⟨_, fun i => pt_not (pa i), fun σ H μ ρ M v M' Q h rσ rs q => ?_⟩
 unfold tN at h
 split at h
 ·cases h
  exact sa σ H μ ρ M _ _ _ (by assumption) rσ rs fun μ1 H1 e1 s1 => q μ1 H1 e1 s1
 ·cases h
variable {es : List Expr} {g : Fa}
theorem sa_nil : SA F [] aNil := ⟨⟨_, fun _ => pa_nil, fun σ H μ ρ M v M' Q h _ rs q => by cases h; exact q _ μ H (Ext.refl _ _) .nil rs⟩, fun ρ M vs M' h => by cases h; rfl⟩
theorem sa_cons (ha : SE F e f) (hb : SA F es g) (hs : ∀ env, starEach (e :: es) env = (false, eval e env) :: starEach es env := by intro _; rfl) : SA F (e :: es) (aCons f g) := by
 obtain ⟨ta, pa, sa⟩ := ha
 obtain ⟨⟨tb, pb, sb⟩, hl⟩ := hb
 refine ⟨⟨_, fun i => pa_cons (pa i) (pb i) (hs _), fun σ H μ ρ M v M' Q h rσ rs q => ?_⟩, fun ρ M vs M' h => ?_⟩
 case refine_2 =>
  unfold aCons at h
  split at h
  ·split at h
   ·cases h
    rw [List.length_cons, hl _ _ _ _ (by assumption)]
    rfl
   ·cases h
  ·cases h
 unfold aCons at h
 split at h
 ·split at h
  ·cases h
   refine sa σ H μ ρ M _ _ _ (by assumption) rσ rs fun w1 μ1 H1 e1 r1 s1 => ?_
   refine sb σ H1 μ1 ρ _ _ _ _ (by assumption) (rσ.ext e1) s1 fun w2 μ2 H2 e2 r2 s2 => ?_
   exact q _ μ2 H2 (e1.trans e2) (.cons (r1.ext e2) r2) s2
  ·cases h
 ·cases h
def mkT : List Vl -> Mem -> Option (Vl × Mem) := fun vs M => if vs.length <= 1000 then some (.tup .trk vs, M) else none
def mkL : List Vl -> Mem -> Option (Vl × Mem) := fun vs M => if vs.length <= 1000 then some (.ref M.length, M ++ [.lst vs]) else none
theorem le_line {n : Nat} (h : n <= 1000) : n <= sizeLine := Nat.le_of_lt (small1000 h)
theorem se_tup {k : Nat} (h : SA F es g) : SE F (.Tuple es k pos) (eA mkT g) := by
 obtain ⟨⟨ta, pa, sa⟩, _⟩ := h
 refine ⟨_, fun i => pe_tup (pa i), fun σ H μ ρ M v M' Q h rσ rs q => ?_⟩
 unfold eA mkT at h
 split at h
 ·split at h
  ·cases h
   refine sa σ H μ ρ M _ _ _ (by assumption) rσ rs fun w1 μ1 H1 e1 r1 s1 => ⟨by rw [<- r1.length]; exact le_line (by assumption), fun p np => ?_⟩
   obtain ⟨s2, e2, r2⟩ := s1.tup np r1
   exact q _ μ1 _ (e1.trans e2) r2 s2
  ·cases h
 ·cases h
theorem se_lst (h : SA F es g) : SE F (.List es pos) (eA mkL g) := by
 obtain ⟨⟨ta, pa, sa⟩, _⟩ := h
 refine ⟨_, fun i => pe_lst (pa i), fun σ H μ ρ M v M' Q h rσ rs q => ?_⟩
 unfold eA mkL at h
 split at h
 ·split at h
  ·cases h
   refine sa σ H μ ρ M _ _ _ (by assumption) rσ rs fun w1 μ1 H1 e1 r1 s1 => ⟨by rw [<- r1.length]; exact le_line (by assumption), fun p np => ?_⟩
   obtain ⟨s2, e2, r2⟩ := s1.alloc (u := .lst w1) (o := .lst _) np fun e => ⟨w1, upd_same, r1.ext e⟩
   exact q _ _ _ (e1.trans e2) r2 s2
  ·cases h
 ·cases h
/-- what a def promises: its function -/
abbrev Fd := List Vl -> Mem -> Option (Vl × Mem)
def spM (K : PySem.W.Frag) (T : Tb) (n : Nat) (m : Fd) : Sp := fun vs H Q _ => vs.length = n /\ ∃ μ M xs v M', RvA K μ H xs vs /\ RS K T μ H M /\ m xs M = some (v, M') /\ ∀ w μ' H', Ext μ H μ' H' -> Rv K μ' H' v w -> RS K T μ' H' M' -> Q w H'
structure Dd (P : Program) (w : World) (K : PySem.W.Frag) (mg : Str -> Option Value) (base : Heap) (T : Tb) (k : Nat) (x : Str) (n : Nat) (m : Fd) : Prop where
 ex : ∃ (fa : Addr) (fd : FuncData) (ps : List Str), FnOk P w K mg base CX0 k fa fd ps (spM K T n m) /\ mg x = some (.ref fa) /\ PySem.W.keepIn K (.ref fa) = true /\ Binds K fd ps []
theorem se_call {x : Str} {k n : Nat} {m : Fd} (D : Dd F.prog F.w F.K F.mg F.base F.T k x n m) (hk : k <= F.lv) (hg : Glb F x) (ha : SA F (e :: es) g) (hn : (e :: es).length = n := by rfl) (hs : ∀ env, starEach (e :: es) env = (false, eval e env) :: starEach es env := by intro _; rfl)
  (hpl : ∀ env, (backTo pos (starEach es env)).any (·.1) = false := by intro _; rfl) (hdb : (x == ("__debug__" : Str)) = false := by decide) : SE F (.Call (.Name x p) (e :: es) [] pos) (eA m g) := by
 obtain ⟨⟨ta, pa, sa⟩, hlen⟩ := ha
 obtain ⟨fa, fd, ps, FN, mg, kp, bd⟩ := D.ex
 refine ⟨tCall (spM F.K F.T n m) [] E0 ta, fun i => ?_, fun σ H μ ρ M v M' Q h rσ rs q => ?_⟩
 ·have FN' : FnOk (F.X i).prog (F.X i).w (F.X i).K (F.X i).mg (F.X i).base CX0 k fa fd ps (spM F.K F.T n m) := by
   rw [F.hprog i, F.hw i, F.hK i, F.hmg i, F.hbase i]
   exact FN
  exact pe_call FN' ((F.hr i).mono hk) (hg.gl i) (by rw [F.hmg i]; exact mg) (by rw [F.hK i]; exact kp) (by rw [F.hK i]; exact bd) .nil pass0 (pa i) hdb (hs _) (hpl _)
 ·unfold eA at h
  split at h
  ·rename_i _ vs M1 h1
   refine sa σ H μ ρ M _ _ _ h1 rσ rs fun w1 μ1 H1 e1 r1 s1 => ?_
   have hl := (hlen _ _ _ _ h1).trans hn
   refine ⟨by rw [List.append_nil, <- r1.length]; exact hl, μ1, M1, vs, v, M', ?_, s1, h, fun w2 μ2 H2 e2 r2 s2 => q w2 μ2 H2 (e1.trans e2) r2 s2⟩
   rw [List.append_nil]
   exact r1
  ·cases h
variable {st : Stmt} {sts : List Stmt} {s s' : Fs}
theorem ss_nil : SSs F [] sNil := ⟨_, fun _ => pss_nil, fun σ H μ ρ M o ρ' M' D h rσ rs q => by cases h; exact q σ μ H (Ext.refl _ _) rσ rs⟩
theorem ss_cons (h1 : SS F st s) (h2 : SSs F sts s') : SSs F (st :: sts) (sCons s s') := by
 obtain ⟨ta, pa, sa⟩ := h1
 obtain ⟨tb, pb, sb⟩ := h2
 refine ⟨_, fun i => pss_cons (pa i) (pb i), fun σ H μ ρ M o ρ' M' D h rσ rs q => ?_⟩
 unfold sCons at h
 split at h
 ·exact sa σ H μ ρ M .nx _ _ _ (by assumption) rσ rs fun σ1 μ1 H1 e1 r1 s1 => sb σ1 H1 μ1 _ _ o ρ' M' D h r1 s1 (q.ext e1)
 ·rename_i hne
  cases o with
  | nx => exact (hne _ _ h).elim
  | rt v => exact sa σ H μ ρ M (.rt v) ρ' M' _ h rσ rs q
  | bk => exact sa σ H μ ρ M .bk ρ' M' _ h rσ rs q
  | ct => exact sa σ H μ ρ M .ct ρ' M' _ h rσ rs q
theorem ss_one (h1 : SS F st s) : SSs F [st] s := by
 obtain ⟨ta, pa, sa⟩ := h1
 exact ⟨ta, fun i => pss_one (pa i), sa⟩
theorem ss_ret (h : SE F e f) : SS F (.Return (some e) pos) (sRet f) := by
 obtain ⟨ta, pa, sa⟩ := h
 refine ⟨_, fun i => ps_ret (pa i), fun σ H μ ρ M o ρ' M' D h rσ rs q => ?_⟩
 unfold sRet at h
 split at h
 ·cases h
  exact sa σ H μ ρ M _ _ _ (by assumption) rσ rs q
 ·cases h
theorem ss_expr (h : SE F e f) (hs : ∀ env, swapsWith e none pos.line env = pure false := by intro _; rfl) : SS F (.Expr e pos) (sEx f) := by
 obtain ⟨ta, pa, sa⟩ := h
 refine ⟨_, fun i => ps_expr (pa i) (hs _), fun σ H μ ρ M o ρ' M' D h rσ rs q => ?_⟩
 unfold sEx at h
 split at h
 ·cases h
  exact sa σ H μ ρ M _ _ _ (by assumption) rσ rs fun w1 μ1 H1 e1 r1 s1 => q σ μ1 H1 e1 (rσ.ext e1) s1
 ·cases h
theorem ss_if {sts' : List Stmt} (hc : ST F c t) (ha : SSs F sts s) (hb : SSs F sts' s') : SS F (.If c sts sts' pos) (sIf t s s') := by
 obtain ⟨tc, pc, sc⟩ := hc
 obtain ⟨ta, pa, sa⟩ := ha
 obtain ⟨tb, pb, sb⟩ := hb
 refine ⟨_, fun i => ps_if (pc i) (pa i) (pb i), fun σ H μ ρ M o ρ' M' D h rσ rs q => ?_⟩
 unfold sIf at h
 split at h
 ·refine sc σ H μ ρ M _ _ _ (by assumption) rσ rs fun μ1 H1 e1 s1 => ?_
  show (if true = true then _ else _)
  rw [if_pos rfl]
  exact sa σ H1 μ1 ρ _ o ρ' M' D h (rσ.ext e1) s1 (q.ext e1)
 ·refine sc σ H μ ρ M _ _ _ (by assumption) rσ rs fun μ1 H1 e1 s1 => ?_
  show (if false = true then _ else _)
  rw [if_neg (by simp)]
  exact sb σ H1 μ1 ρ _ o ρ' M' D h (rσ.ext e1) s1 (q.ext e1)
 ·cases h
end
end Sh
namespace Sh
open PySem PySem.Spec PyProof.Rows L2 NdefX GenE
open GxR (TabB TabG Tabbed)
def lim : Nat := 100000
theorem lim_line : lim <= sizeLine := by decide
theorem le_lim {n : Nat} (h : n <= lim) : n <= sizeLine := Nat.le_trans h lim_line
def Ob.seq : Ob -> Option (List Vl)
 | .lst xs => some xs
 | .fro xs => some xs
 | .dic _ => none
 | .dit _ => none
 | .ist _ => none
 | .fdi _ => none
 | .fdt _ => none
section
variable {K : PySem.W.Frag} {T : Tb} {μ : List Addr} {H : Hp} {M : Mem}
theorem RS.seq {k : Nat} {o : Ob} {xs : List Vl} {a : Addr} (r : RS K T μ H M) (h1 : M[k]? = some o) (h2 : o.seq = some xs) (h3 : μ[k]? = some a) : ∃ ws, SqL K H a ws /\ RvA K μ H xs ws := by
 have q := r.mem.ob k o a h1 h3
 cases o with
 | lst ys => cases h2; obtain ⟨ws, e, rv⟩ := q; exact ⟨ws, SqL.of e, rv⟩
 | fro ys => cases h2; obtain ⟨ws, e, rv⟩ := q; exact ⟨ws, e.sq, rv⟩
 | dic kvs => cases h2
 | dit kvs => cases h2
 | ist S => cases h2
 | fdi S => cases h2
 | fdt S => cases h2
theorem RS.lst {k : Nat} {xs : List Vl} {a : Addr} (r : RS K T μ H M) (h1 : M[k]? = some (.lst xs)) (h3 : μ[k]? = some a) : ∃ ws, H a = some (.lst ws) /\ RvA K μ H xs ws := r.mem.ob k _ a h1 h3
end
def seqAt (M : Mem) (k : Nat) : Option (List Vl) := match M[k]? with
 | some o => o.seq
 | none => none
theorem seqAt_some {M : Mem} {k : Nat} {xs : List Vl} (h : seqAt M k = some xs) : ∃ o, M[k]? = some o /\ o.seq = some xs := by
 unfold seqAt at h
 split at h
 ·exact ⟨_, by assumption, h⟩
 ·cases h
def vAdd : Vl -> Vl -> Mem -> Option (Vl × Mem)
 | .int i, .int j, M => some (.int (i + j), M)
 | .str a, .str b, M => if a.length + b.length <= lim then some (.str (a ++ b), M) else none
 | .tup _ a, .tup _ b, M => if a.length + b.length <= lim then some (.tup .any (a ++ b), M) else none
 | .ref j, .ref k, M => match M[j]?, M[k]? with
  | some (.lst a), some (.lst b) => if a.length + b.length <= lim then some (.ref M.length, M ++ [.lst (a ++ b)]) else none
  | _, _ => none
 | _, _, _ => none
theorem op2_add {F : Fam} : Op2 F (binaryOp .Add) vAdd := by
 refine ⟨_, fun i => ((op_add (X := F.X i)).or op_add_str).or ((F.hK i ▸ op_catA (X := F.X i)).or op_cat), ?_⟩
 intro H μ M x y wx wy v M' Q h rx ry rs q
 cases rx <;> cases ry <;> simp only [vAdd] at h <;> try (cases h; done)
 ·cases h
  exact .inl (.inl ⟨_, _, rfl, rfl, q _ μ H (Ext.refl _ _) (.int _) rs⟩)
 ·split at h
  ·cases h
   exact .inl (.inr ⟨_, _, rfl, rfl, le_lim (by assumption), q _ μ H (Ext.refl _ _) (.str _) rs⟩)
  ·cases h
 ·split at h
  ·cases h
   rename_i a _ xs ws sa ra na b _ ys us sb rb nb hle
   refine .inr (.inl ⟨a, b, ws, us, rfl, rfl, sa, sb, by rw [<- ra.length, <- rb.length]; exact le_lim hle, fun e => ?_, fun _ e => ?_, fun _ _ p np => ?_⟩)
   ·subst e
    cases ra
    exact q _ μ H (Ext.refl _ _) (.tup sb rb trivial) rs
   ·subst e
    cases rb
    rw [List.append_nil] at q
    exact q _ μ H (Ext.refl _ _) (.tup sa ra trivial) rs
   ·obtain ⟨s2, e2, r2⟩ := rs.tup np (ra.append rb)
    exact q _ μ _ e2 r2.anyT s2
  ·cases h
 ·rename_i j a ha k b hb
  split at h
  ·split at h
   ·cases h
    rename_i xs ys h1 h2 hle
    obtain ⟨ws, e1, r1⟩ := rs.lst h1 ha
    obtain ⟨us, e2, r2⟩ := rs.lst h2 hb
    refine .inr (.inr ⟨a, b, ws, us, rfl, rfl, e1, e2, by rw [<- r1.length, <- r2.length]; exact le_lim hle, fun p np => ?_⟩)
    obtain ⟨s3, e3, r3⟩ := rs.alloc (u := .lst (ws ++ us)) (o := .lst (xs ++ ys)) np fun e => ⟨_, upd_same, (r1.append r2).ext e⟩
    exact q _ _ _ e3 r3 s3
   ·cases h
  ·cases h
def vInt (C : Int -> Int -> Prop) [∀ i j, Decidable (C i j)] (g : Int -> Int -> Int) : Vl -> Vl -> Mem -> Option (Vl × Mem)
 | .int i, .int j, M => if C i j then some (.int (g i j), M) else none
 | _, _, _ => none
theorem sem_int {K : PySem.W.Frag} {T : Tb} {C D : Int -> Int -> Prop} [∀ i j, Decidable (C i j)] {g : Int -> Int -> Int} (hC : ∀ i j, C i j -> D i j) : Sem2 K T (rI D fun i j => .int (g i j)) (vInt C g) := by
 intro H μ M x y wx wy v M' Q h rx ry rs q
 cases rx <;> cases ry <;> simp only [vInt] at h <;> try (cases h; done)
 split at h
 ·cases h
  exact ⟨_, _, rfl, rfl, hC _ _ (by assumption), q _ μ H (Ext.refl _ _) (.int _) rs⟩
 ·cases h
def vSub := vInt (fun _ _ => True) (· - ·)
theorem op2_sub {F : Fam} : Op2 F (binaryOp .Sub) vSub := by
 refine ⟨_, fun i => op_sub, ?_⟩
 intro H μ M x y wx wy v M' Q h rx ry rs q
 cases rx <;> cases ry <;> simp only [vSub, vInt] at h <;> try (cases h; done)
 split at h
 ·cases h
  exact ⟨_, _, rfl, rfl, q _ μ H (Ext.refl _ _) (.int _) rs⟩
 ·cases h
instance (i j : Int) : Decidable (CMul i j) := by unfold CMul; infer_instance
instance (i j : Int) : Decidable (CDiv i j) := by unfold CDiv; infer_instance
instance (i j : Int) : Decidable (CPow i j) := by unfold CPow; infer_instance
instance (xs : List Vl) : Decidable (xs = []) := match xs with
 | [] => .isTrue rfl
 | _ :: _ => .isFalse (by simp)
def vMul : Vl -> Vl -> Mem -> Option (Vl × Mem)
 | .int i, .int j, M => if CMul i j then some (.int (i * j), M) else none
 | .tup _ xs, .int k, M => if xs ≠ [] /\ 2 <= k /\ k <= 1000 /\ xs.length <= 1000 then some (.tup .any (List.replicate k.toNat xs).flatten, M) else none
 | _, _, _ => none
theorem op2_mul {F : Fam} : Op2 F (binaryOp .Mult) vMul := by
 refine ⟨_, fun i => (op_mul (X := F.X i)).or (F.hK i ▸ op_repT (X := F.X i)), ?_⟩
 intro H μ M x y wx wy v M' Q h rx ry rs q
 cases rx <;> cases ry <;> simp only [vMul] at h <;> try (cases h; done)
 ·split at h
  ·cases h
   exact .inl ⟨_, _, rfl, rfl, by assumption, q _ μ H (Ext.refl _ _) (.int _) rs⟩
  ·cases h
 ·split at h
  ·cases h
   rename_i a _ xs ws sa ra na k hc
   obtain ⟨h1, h2, h3, h4⟩ := hc
   refine .inr ⟨a, k, ws, rfl, rfl, sa, fun z => ?_, h2, h3, by rw [<- ra.length]; exact h4, fun p np => ?_⟩
   ·subst z
    cases ra
    exact h1 rfl
   ·obtain ⟨s2, e2, r2⟩ := rs.tup np (ra.rep k.toNat)
    exact q _ μ _ e2 r2.anyT s2
  ·cases h
def vMod := vInt (fun _ j => 0 < j) (· % ·)
theorem op2_mod {F : Fam} : Op2 F (binaryOp .Mod) vMod := ⟨_, fun i => op_mod, sem_int fun _ _ h => h⟩
def vDiv := vInt CDiv (· / ·)
theorem op2_div {F : Fam} : Op2 F (binaryOp .FloorDiv) vDiv := ⟨_, fun i => op_fdiv, sem_int fun _ _ h => h⟩
def vPow := vInt CPow (fun i j => i ^ j.toNat)
theorem op2_pow {F : Fam} : Op2 F (binaryOp .Pow) vPow := ⟨_, fun i => op_pow, sem_int fun _ _ h => h⟩
def eNeg (f : Fe) : Fe := fun ρ M => match f ρ M with
 | some (.int i, M1) => some (.int (-i), M1)
 | _ => none
theorem se_neg {F : Fam} {a : Expr} {f : Fe} {pos : Pos} (h : SE F a f) : SE F (.UnaryOp .USub a pos) (eNeg f) := by
 obtain ⟨ta, pa, sa⟩ := h
 refine ⟨_, fun i => pe_un un_neg (pa i), fun σ H μ ρ M v M' Q h rσ rs q => ?_⟩
 unfold eNeg at h
 split at h
 ·cases h
  refine sa σ H μ ρ M _ _ _ (by assumption) rσ rs fun w1 μ1 H1 e1 r1 s1 => ?_
  cases r1
  exact ⟨_, rfl, q _ μ1 H1 e1 (.int _) s1⟩
 ·cases h
def vCmp (g : Int -> Int -> Bool) : Vl -> Vl -> Mem -> Option (Vl × Mem)
 | .int i, .int j, M => some (.bl (g i j), M)
 | _, _, _ => none
theorem sem_cmp {K : PySem.W.Frag} {T : Tb} {g : Int -> Int -> Bool} : Sem2 K T (rI0 fun i j => .bl (g i j)) (vCmp g) := by
 intro H μ M x y wx wy v M' Q h rx ry rs q
 cases rx <;> cases ry <;> simp only [vCmp] at h <;> try (cases h; done)
 cases h
 exact ⟨_, _, rfl, rfl, q _ μ H (Ext.refl _ _) (.bl _) rs⟩
def vLe := vCmp fun i j => decide (i <= j)
def vGe := vCmp fun i j => decide (j <= i)
theorem op2_le {F : Fam} : Op2 F (compareOp .LtE) vLe := ⟨_, fun i => op_le, sem_cmp⟩
theorem op2_ge {F : Fam} : Op2 F (compareOp .GtE) vGe := ⟨_, fun i => op_ge, sem_cmp⟩
def mapO {α β : Type} (g : α -> Option β) : List α -> Option (List β)
 | [] => some []
 | x :: xs => match g x, mapO g xs with
  | some y, some ys => some (y :: ys)
  | _, _ => none
def toD : Nat -> Mem -> Vl -> Option PyData
 | 0, _, _ => none
 | _ + 1, _, .non => some .none
 | _ + 1, _, .bl b => some (.bool b)
 | _ + 1, _, .int i => some (.int i)
 | _ + 1, _, .str x => if PyData.strOk x then some (.str x) else none
 | n + 1, M, .tup _ xs => (mapO (toD n M) xs).map .tuple
 | n + 1, M, .ref k => match seqAt M k with
  | some xs => (mapO (toD n M) xs).map .list
  | none => none
 | _ + 1, _, .exc _ _ _ => none
theorem toD_all {K : PySem.W.Frag} {μ : List Addr} {H : Hp} {M : Mem} {n : Nat} (ih : ∀ (x : Vl) (w : V) (d : PyData), toD n M x = some d -> Rv K μ H x w -> Dp K H w d /\ d.canLay0 = true /\ d.depth <= n) :
  ∀ {xs : List Vl} {ws : List V} {ds : List PyData}, mapO (toD n M) xs = some ds -> RvA K μ H xs ws -> DpAll K H ws ds /\ PyData.canLayAll0 ds = true /\ PyData.depthAll ds <= n
 | [], _, _, h, .nil => by
  cases h
  exact ⟨.nil, rfl, Nat.zero_le _⟩
 | x :: xs, _, _, h, .cons r rs => by
  unfold mapO at h
  split at h
  ·cases h
   obtain ⟨a1, a2, a3⟩ := ih _ _ _ (by assumption) r
   obtain ⟨b1, b2, b3⟩ := toD_all ih (by assumption) rs
   refine ⟨.cons a1 b1, ?_, ?_⟩
   ·unfold PyData.canLayAll0
    rw [a2, b2]
    rfl
   ·unfold PyData.depthAll
    omega
  ·cases h
theorem toD_ok {K : PySem.W.Frag} {T : Tb} {μ : List Addr} {H : Hp} {M : Mem} (rs : RS K T μ H M) : ∀ (n : Nat) (x : Vl) (w : V) (d : PyData), toD n M x = some d -> Rv K μ H x w -> Dp K H w d /\ d.canLay0 = true /\ d.depth <= n := by
 intro n
 induction n with
 | zero => intro x w d h; simp [toD] at h
 | succ n ih =>
  intro x w d h r
  cases r with
  | non => simp only [toD] at h; cases h; exact ⟨.non, rfl, by simp [PyData.depth]⟩
  | bl b => simp only [toD] at h; cases h; exact ⟨.bl b, rfl, by simp [PyData.depth]⟩
  | int b => simp only [toD] at h; cases h; exact ⟨.int b, rfl, by simp [PyData.depth]⟩
  | str b =>
   simp only [toD] at h
   split at h
   ·cases h
    exact ⟨.str b, by assumption, by simp [PyData.depth]⟩
   ·cases h
  | tup s r n9 =>
   simp only [toD] at h
   rw [Option.map_eq_some_iff] at h
   obtain ⟨ds, h1, rfl⟩ := h
   obtain ⟨a, b, c⟩ := toD_all ih h1 r
   exact ⟨.tup s a, b, Nat.succ_le_succ c⟩
  | ref hk =>
   simp only [toD] at h
   split at h
   ·rw [Option.map_eq_some_iff] at h
    obtain ⟨ds, h1, rfl⟩ := h
    obtain ⟨o, h2, h3⟩ := seqAt_some (by assumption)
    obtain ⟨ws, s, r⟩ := rs.seq h2 h3 hk
    obtain ⟨a, b, c⟩ := toD_all ih h1 r
    exact ⟨.lst s a, b, Nat.succ_le_succ c⟩
   ·cases h
def vEq : Vl -> Vl -> Mem -> Option (Vl × Mem) := fun x y M => match toD 20 M x, toD 20 M y with
 | some d, some e => some (.bl (PyData.eqv d e), M)
 | _, _ => none
def vNe : Vl -> Vl -> Mem -> Option (Vl × Mem) := fun x y M => match toD 20 M x, toD 20 M y with
 | some d, some e => some (.bl (!PyData.eqv d e), M)
 | _, _ => none
theorem shaped_of {d : PyData} (h1 : d.canLay0 = true) (h2 : d.depth < 22) : SeqAt.shaped d = true := by
 unfold SeqAt.shaped
 rw [h1, decide_eq_true (by omega)]
 rfl
theorem op2_eq {F : Fam} : Op2 F (compareOp .Eq) vEq := by
 refine ⟨_, fun i => F.hK i ▸ op_eqD (X := F.X i) (F.hr i).units, ?_⟩
 intro H μ M x y wx wy v M' Q h rx ry rs q
 unfold vEq at h
 split at h
 ·cases h
  obtain ⟨a1, a2, a3⟩ := toD_ok rs 20 x wx _ (by assumption) rx
  obtain ⟨b1, b2, b3⟩ := toD_ok rs 20 y wy _ (by assumption) ry
  exact ⟨_, _, a1, b1, shaped_of a2 (by omega), shaped_of b2 (by omega), q _ μ H (Ext.refl _ _) (.bl _) rs⟩
 ·cases h
theorem op2_ne {F : Fam} : Op2 F (compareOp .NotEq) vNe := by
 refine ⟨_, fun i => F.hK i ▸ op_neD (X := F.X i) (F.hr i).units, ?_⟩
 intro H μ M x y wx wy v M' Q h rx ry rs q
 unfold vNe at h
 split at h
 ·cases h
  obtain ⟨a1, a2, a3⟩ := toD_ok rs 20 x wx _ (by assumption) rx
  obtain ⟨b1, b2, b3⟩ := toD_ok rs 20 y wy _ (by assumption) ry
  exact ⟨_, _, a1, b1, shaped_of a2 (by omega), shaped_of b2 (by omega), q _ μ H (Ext.refl _ _) (.bl _) rs⟩
 ·cases h
def rInDT (K : PySem.W.Frag) : R2 := fun x y H Q => ∃ d ds, Dp K H x d /\ Dp K H y (.tuple ds) /\ SeqAt.shaped d = true /\ SeqAt.shaped (.tuple ds) = true /\ Q (.bl (ds.any fun z => PyData.eqv z d)) H
def rNotInDT (K : PySem.W.Frag) : R2 := fun x y H Q => ∃ d ds, Dp K H x d /\ Dp K H y (.tuple ds) /\ SeqAt.shaped d = true /\ SeqAt.shaped (.tuple ds) = true /\ Q (.bl (!ds.any fun z => PyData.eqv z d)) H
theorem op_inDT {X : Cx} (hu : X.A.units + 65 < cLine) : OpR X (compareOp .In) (rInDT X.K) := by
 intro pins s σ H x y v u Q I rx ry h
 obtain ⟨d, ds, hd, he, sd, se, q⟩ := h
 obtain ⟨as, r1⟩ := Dp.reads I d x v hd rx
 obtain ⟨bs, r2⟩ := Dp.reads I (.tuple ds) y u he ry
 exact SeqAt.in_tuple_reads r2 r1 (SeqAt.canLay_of_shaped se) (SeqAt.canLay_of_shaped sd) (room_in_shaped sd hu) ⟨.bl _, H, I, rfl, q⟩
theorem op_notInDT {X : Cx} (hu : X.A.units + 65 < cLine) : OpR X (compareOp .NotIn) (rNotInDT X.K) := by
 intro pins s σ H x y v u Q I rx ry h
 obtain ⟨d, ds, hd, he, sd, se, q⟩ := h
 obtain ⟨as, r1⟩ := Dp.reads I d x v hd rx
 obtain ⟨bs, r2⟩ := Dp.reads I (.tuple ds) y u he ry
 exact SeqAt.notIn_tuple_reads r2 r1 (SeqAt.canLay_of_shaped se) (SeqAt.canLay_of_shaped sd) (room_in_shaped sd hu) ⟨.bl _, H, I, rfl, q⟩
theorem units65 {k : Nat} {A : Around} (h : Room k A) : A.units + 65 < cLine := by have := h.un; omega
def inOf (M : Mem) (x y : Vl) : Option Bool := match x, y with
 | .str a, .str b => some (!(Builtin.Str.occurrences b a 0 b.length 1).isEmpty)
 | x, .tup dd ys => match toD 20 M x, toD 20 M (.tup dd ys) with
  | some d, some (.tuple ds) => some (ds.any fun z => PyData.eqv z d)
  | _, _ => none
 | x, .ref k => match toD 20 M x, toD 20 M (.ref k) with
  | some d, some (.list ds) => some (ds.any fun z => PyData.eqv z d)
  | _, _ => none
 | _, _ => none
def vIn : Vl -> Vl -> Mem -> Option (Vl × Mem) := fun x y M => (inOf M x y).map fun b => (.bl b, M)
def vNotIn : Vl -> Vl -> Mem -> Option (Vl × Mem) := fun x y M => (inOf M x y).map fun b => (.bl (!b), M)
theorem inOf_ok {K : PySem.W.Frag} {T : Tb} {μ : List Addr} {H : Hp} {M : Mem} {x y : Vl} {wx wy : V} {b : Bool} (rs : RS K T μ H M) (rx : Rv K μ H x wx) (ry : Rv K μ H y wy) (h : inOf M x y = some b) {P : Prop}
  (h1 : ∀ a c, wx = .str a -> wy = .str c -> b = (!(Builtin.Str.occurrences c a 0 c.length 1).isEmpty) -> P) (h2 : ∀ d ds, Dp K H wx d -> Dp K H wy (.tuple ds) -> SeqAt.shaped d = true -> SeqAt.shaped (.tuple ds) = true -> b = ds.any (fun z => PyData.eqv z d) -> P)
  (h3 : ∀ d ds, Dp K H wx d -> Dp K H wy (.list ds) -> SeqAt.shaped d = true -> SeqAt.shaped (.list ds) = true -> b = ds.any (fun z => PyData.eqv z d) -> P) : P := by
 unfold inOf at h
 split at h
 ·cases h
  cases rx
  cases ry
  exact h1 _ _ rfl rfl rfl
 ·split at h
  ·cases h
   obtain ⟨a1, a2, a3⟩ := toD_ok rs 20 x wx _ (by assumption) rx
   obtain ⟨b1, b2, b3⟩ := toD_ok rs 20 _ wy _ (by assumption) ry
   exact h2 _ _ a1 b1 (shaped_of a2 (by omega)) (shaped_of b2 (by omega)) rfl
  ·cases h
 ·split at h
  ·cases h
   obtain ⟨a1, a2, a3⟩ := toD_ok rs 20 x wx _ (by assumption) rx
   obtain ⟨b1, b2, b3⟩ := toD_ok rs 20 _ wy _ (by assumption) ry
   exact h3 _ _ a1 b1 (shaped_of a2 (by omega)) (shaped_of b2 (by omega)) rfl
  ·cases h
 ·cases h
theorem op2_in {F : Fam} : Op2 F (compareOp .In) vIn := by
 refine ⟨_, fun i => (op_in_str (X := F.X i)).or ((F.hK i ▸ op_inDT (X := F.X i) (units65 (F.hr i))).or (F.hK i ▸ op_inD (X := F.X i) (units65 (F.hr i)))), ?_⟩
 intro H μ M x y wx wy v M' Q h rx ry rs q
 unfold vIn at h
 rw [Option.map_eq_some_iff] at h
 obtain ⟨b, hb, e⟩ := h
 cases e
 refine inOf_ok rs rx ry hb (fun a c e1 e2 e3 => .inl ⟨a, c, e1, e2, ?_⟩) (fun d ds a1 a2 a3 a4 e => .inr (.inl ⟨d, ds, a1, a2, a3, a4, ?_⟩)) (fun d ds a1 a2 a3 a4 e => .inr (.inr ⟨d, ds, a1, a2, a3, a4, ?_⟩))
 ·rw [<- e3]
  exact q _ μ H (Ext.refl _ _) (.bl _) rs
 ·rw [<- e]
  exact q _ μ H (Ext.refl _ _) (.bl _) rs
 ·rw [<- e]
  exact q _ μ H (Ext.refl _ _) (.bl _) rs
theorem op2_notIn {F : Fam} : Op2 F (compareOp .NotIn) vNotIn := by
 refine ⟨_, fun i => (op_notIn_str (X := F.X i)).or ((F.hK i ▸ op_notInDT (X := F.X i) (units65 (F.hr i))).or (F.hK i ▸ op_notInD (X := F.X i) (units65 (F.hr i)))), ?_⟩
 intro H μ M x y wx wy v M' Q h rx ry rs q
 unfold vNotIn at h
 rw [Option.map_eq_some_iff] at h
 obtain ⟨b, hb, e⟩ := h
 cases e
 refine inOf_ok rs rx ry hb (fun a c e1 e2 e3 => .inl ⟨a, c, e1, e2, ?_⟩) (fun d ds a1 a2 a3 a4 e => .inr (.inl ⟨d, ds, a1, a2, a3, a4, ?_⟩)) (fun d ds a1 a2 a3 a4 e => .inr (.inr ⟨d, ds, a1, a2, a3, a4, ?_⟩))
 ·rw [<- e3]
  exact q _ μ H (Ext.refl _ _) (.bl _) rs
 ·rw [<- e]
  exact q _ μ H (Ext.refl _ _) (.bl _) rs
 ·rw [<- e]
  exact q _ μ H (Ext.refl _ _) (.bl _) rs
end Sh
namespace Sh
open PySem PySem.Spec PyProof.Rows L2 NdefX GenE
open GxR (TabB TabG Tabbed)
section
variable {F : Fam} {e a b c o : Expr} {f fa fb fc : Fe} {pos p apos : Pos} {es : List Expr} {g : Fa}
theorem RvA.atI {K : PySem.W.Frag} {μ : List Addr} {H : Hp} {xs : List Vl} {ws : List V} {i : Int} {x : Vl} (r : RvA K μ H xs ws) (h : atI xs i = some x) : ∃ w, L2.atI ws i = some w /\ Rv K μ H x w := by
 unfold L2.atI at h ⊢
 rw [<- r.length]
 cases e : ixN xs.length i with
 | none => rw [e] at h; cases h
 | some j =>
  rw [e] at h
  exact r.get h
def vIx : Vl -> Vl -> Mem -> Option (Vl × Mem)
 | .tup _ xs, .int i, M => (atI xs i).map fun x => (x, M)
 | .ref k, .int i, M => match seqAt M k with
  | some xs => (atI xs i).map fun x => (x, M)
  | none => none
 | .str z, .int i, M => if z.length <= lim then (atI z.cps.toList i).map fun c => (.str ⟨#[c]⟩, M) else none
 | _, _, _ => none
theorem se_ix (ha : SE F a fa) (hb : SE F b fb) (hs : PlainIx b := by exact fun _ _ => rfl) : SE F (.Subscript a b pos) (e2 vIx fa fb) := by
 obtain ⟨ta, pa, sa⟩ := ha
 obtain ⟨tb, pb, sb⟩ := hb
 refine ⟨_, fun i => pe_ix ((F.hK i ▸ ix_tup (X := F.X i)).or ((F.hK i ▸ ix_list (X := F.X i)).or ix_str)) (pa i) (pb i) hs, semOp ?_ sa sb⟩
 intro H μ M x y wx wy v M' Q h rx ry rs q
 cases rx <;> cases ry <;> simp only [vIx] at h <;> try (cases h; done)
 ·split at h
  ·rw [Option.map_eq_some_iff] at h
   obtain ⟨c, hc, e⟩ := h
   cases e
   exact .inr (.inr ⟨_, _, c, rfl, rfl, le_lim (by assumption), hc, q _ μ H (Ext.refl _ _) (.str _) rs⟩)
  ·cases h
 ·rename_i a _ xs ws sa ra na i
  rw [Option.map_eq_some_iff] at h
  obtain ⟨x, hx, e⟩ := h
  cases e
  obtain ⟨w, hw, rw'⟩ := ra.atI hx
  exact .inl ⟨a, ws, i, w, rfl, rfl, sa, hw, q _ μ H (Ext.refl _ _) rw' rs⟩
 ·rename_i k a hk i
  split at h
  ·rw [Option.map_eq_some_iff] at h
   obtain ⟨x, hx, e⟩ := h
   cases e
   obtain ⟨o, h1, h2⟩ := seqAt_some (by assumption)
   obtain ⟨ws, sq, ra⟩ := rs.seq h1 h2 hk
   obtain ⟨w, hw, rw'⟩ := ra.atI hx
   exact .inr (.inl ⟨a, ws, i, w, rfl, rfl, sq, hw, q _ μ H (Ext.refl _ _) rw' rs⟩)
  ·cases h
abbrev Fo := Env -> Mem -> Option (Option Int × Mem)
def oNone : Fo := fun _ M => some (none, M)
def oSome (f : Fe) : Fo := fun ρ M => match f ρ M with
 | some (.int i, M1) => some (some i, M1)
 | _ => none
def SO (F : Fam) (oe : Option Expr) (f : Fo) : Prop := ∃ to, (∀ i, PO (F.X i) oe to) /\ ∀ (σ : L2.St) (H : Hp) (μ : List Addr) (ρ : Env) (M : Mem) (v : Option Int) (M' : Mem) (Q : Option Int -> Hp -> Prop), f ρ M = some (v, M') -> Rσ F.K μ H ρ σ -> RS F.K F.T μ H M ->
 (∀ μ' H', Ext μ H μ' H' -> RS F.K F.T μ' H' M' -> Q v H') -> to σ H Q
theorem so_none : SO F none oNone := ⟨_, fun _ => po_none, fun σ H μ ρ M v M' Q h rσ rs q => by cases h; exact q μ H (Ext.refl _ _) rs⟩
theorem so_some (h : SE F e f) : SO F (some e) (oSome f) := by
 obtain ⟨ta, pa, sa⟩ := h
 refine ⟨_, fun i => po_some (pa i), fun σ H μ ρ M v M' Q h rσ rs q => ?_⟩
 unfold oSome at h
 split at h
 ·cases h
  refine sa σ H μ ρ M _ _ _ (by assumption) rσ rs fun w1 μ1 H1 e1 r1 s1 => ?_
  cases r1
  exact ⟨_, rfl, q μ1 H1 e1 s1⟩
 ·cases h
def cutL {α : Type} (xs : List α) (lo hi : Option Int) : List α := (xs.drop (HT.sIx xs.length 0 lo)).take (HT.sIx xs.length xs.length hi - HT.sIx xs.length 0 lo)
theorem RvA.cut {K : PySem.W.Frag} {μ : List Addr} {H : Hp} {xs : List Vl} {ws : List V} (r : RvA K μ H xs ws) (lo hi : Option Int) : RvA K μ H (cutL xs lo hi) (cutV ws lo hi) := by
 unfold cutL cutV
 rw [r.length]
 exact (r.drop _).take _
def vSl : Vl -> Option Int -> Option Int -> Mem -> Option (Vl × Mem)
 | .tup _ xs, lo, hi, M => some (.tup .any (cutL xs lo hi), M)
 | .str z, lo, hi, M => if z.length <= lim then some (.str (cutS z lo hi), M) else none
 | .ref k, lo, hi, M => match seqAt M k with
  | some xs => some (.ref M.length, M ++ [.lst (cutL xs lo hi)])
  | none => none
 | _, _, _, _ => none
def eSl (f : Fe) (l h : Fo) : Fe := fun ρ M => match f ρ M with
 | some (v, M1) => match l ρ M1 with
  | some (lo, M2) => match h ρ M2 with
   | some (hi, M3) => vSl v lo hi M3
   | none => none
  | none => none
 | none => none
theorem se_slice {lo hi : Option Expr} {fl fh : Fo} {p2 : Pos} (he : SE F e f) (hl : SO F lo fl) (hh : SO F hi fh) : SE F (.Subscript e (.Slice lo hi none p2) pos) (eSl f fl fh) := by
 obtain ⟨te, pe, se⟩ := he
 obtain ⟨tl, pl, sl⟩ := hl
 obtain ⟨th, ph, sh⟩ := hh
 refine ⟨_, fun i => pe_slice ((F.hK i ▸ sl_tupA (X := F.X i)).or ((F.hK i ▸ sl_list (X := F.X i)).or sl_str)) (pe i) (pl i) (ph i), fun σ H μ ρ M v M' Q h rσ rs q => ?_⟩
 unfold eSl at h
 split at h
 ·rename_i _ x M1 h1
  split at h
  ·rename_i _ l M2 h2
   split at h
   ·rename_i _ u M3 h3
    refine se σ H μ ρ M _ _ _ h1 rσ rs fun w1 μ1 H1 e1 r1 s1 => ?_
    refine sl σ H1 μ1 ρ M1 _ _ _ h2 (rσ.ext e1) s1 fun μ2 H2 e2 s2 => ?_
    refine sh σ H2 μ2 ρ M2 _ _ _ h3 (rσ.ext (e1.trans e2)) s2 fun μ3 H3 e3 s3 => ?_
    have e13 := (e1.trans e2).trans e3
    have r3 := r1.ext (e2.trans e3)
    have q' := fun w μ' H' e r s => q w μ' H' (e13.trans e) r s
    cases r3 <;> simp only [vSl] at h <;> try (cases h; done)
    ·split at h
     ·cases h
      exact .inr (.inr ⟨_, rfl, le_lim (by assumption), q' _ μ3 H3 (Ext.refl _ _) (.str _) s3⟩)
     ·cases h
    ·rename_i a _ xs ws sa ra na
     cases h
     refine .inl ⟨a, ws, rfl, sa, fun hz => ?_, fun _ p np => ?_⟩
     ·have e9 : cutL xs l u = xs := by
       unfold cutL
       rw [ra.length, hz.1, hz.2, List.drop_zero, Nat.sub_zero, <- ra.length]
       exact List.take_length
      rw [e9] at q'
      exact q' _ μ3 H3 (Ext.refl _ _) (.tup sa ra trivial) s3
     ·obtain ⟨s4, e4, r4⟩ := s3.tup np (ra.cut l u)
      exact q' _ μ3 _ e4 r4.anyT s4
    ·rename_i k a hk
     split at h
     ·cases h
      obtain ⟨o, g1, g2⟩ := seqAt_some (by assumption)
      obtain ⟨ws, sq, ra⟩ := s3.seq g1 g2 hk
      refine .inr (.inl ⟨a, ws, rfl, sq, fun p np => ?_⟩)
      obtain ⟨s4, e4, r4⟩ := s3.alloc (u := .lst (cutV ws l u)) (o := .lst _) np fun e => ⟨_, upd_same, (ra.cut l u).ext e⟩
      exact q' _ _ _ e4 r4 s4
     ·cases h
   ·cases h
  ·cases h
 ·cases h
theorem semCB {r : List V -> Hp -> VK -> Prop} {op : List Vl -> Mem -> Option (Vl × Mem)} {t : TA} (hs : SemL F.K F.T r op) (h : SemA F.K F.T t g) : SemE F.K F.T (tCB r t) (eA op g) := by
 intro σ H μ ρ M v M' Q h1 rσ rs q
 unfold eA at h1
 split at h1
 ·refine h σ H μ ρ M _ _ _ (by assumption) rσ rs fun w1 μ1 H1 e1 r1 s1 => ?_
  exact hs H1 μ1 _ _ w1 v M' Q h1 r1 s1 fun w2 μ2 H2 e2 r2 s2 => q w2 μ2 H2 (e1.trans e2) r2 s2
 ·cases h1
theorem se_blt {x : Str} {id : String} {r : List V -> Hp -> VK -> Prop} {op : List Vl -> Mem -> Option (Vl × Mem)} (hc : ∀ i, CallR (F.X i) (.builtin id) r) (hs : SemL F.K F.T r op) (hg : Glb F x) (hm : F.mg x = none) (hv : bootBuiltins x = some (.builtin id)) (ha : SA F (e :: es) g)
  (hn : x ≠ "__name__" := by decide) (hdb : (x == ("__debug__" : Str)) = false := by decide) (he : ∀ env, starEach (e :: es) env = (false, eval e env) :: starEach es env := by intro _; rfl) (hpl : ∀ env, (backTo pos (starEach es env)).any (·.1) = false := by intro _; rfl) :
  SE F (.Call (.Name x p) (e :: es) [] pos) (eA op g) := by
 obtain ⟨⟨ta, pa, sa⟩, _⟩ := ha
 exact ⟨_, fun i => pe_callB (hc i) (hg.gl i) (by rw [F.hmg i]; exact hm) hv (pa i) hn hdb (he _) (hpl _), semCB hs sa⟩
theorem se_bty {x : Str} {id : String} {r : List V -> Hp -> VK -> Prop} {op : List Vl -> Mem -> Option (Vl × Mem)} (hc : ∀ i, CallR (F.X i) (.type id) r) (hs : SemL F.K F.T r op) (hg : Glb F x) (hm : F.mg x = none) (hv : bootBuiltins x = some (.type id)) (ha : SA F (e :: es) g)
  (hn : x ≠ "__name__" := by decide) (hdb : (x == ("__debug__" : Str)) = false := by decide) (he : ∀ env, starEach (e :: es) env = (false, eval e env) :: starEach es env := by intro _; rfl) (hpl : ∀ env, (backTo pos (starEach es env)).any (·.1) = false := by intro _; rfl) :
  SE F (.Call (.Name x p) (e :: es) [] pos) (eA op g) := by
 obtain ⟨⟨ta, pa, sa⟩, _⟩ := ha
 exact ⟨_, fun i => pe_callTy (hc i) (hg.gl i) (by rw [F.hmg i]; exact hm) hv (pa i) hn hdb (he _) (hpl _), semCB hs sa⟩
theorem RvA.one {K : PySem.W.Frag} {μ : List Addr} {H : Hp} {x : Vl} {ws : List V} (r : RvA K μ H [x] ws) : ∃ w, ws = [w] /\ Rv K μ H x w := by
 cases r with
 | cons a b => cases b; exact ⟨_, rfl, a⟩
def v1 (op : Vl -> Mem -> Option (Vl × Mem)) : List Vl -> Mem -> Option (Vl × Mem)
 | [x], M => op x M
 | _, _ => none
theorem semL1 {K : PySem.W.Frag} {T : Tb} {r : List V -> Hp -> VK -> Prop} {op : Vl -> Mem -> Option (Vl × Mem)} (hh : ∀ (H : Hp) (μ : List Addr) (M : Mem) (x : Vl) (w : V) (v : Vl) (M' : Mem) (Q : VK), op x M = some (v, M') -> Rv K μ H x w -> RS K T μ H M ->
  (∀ w μ' H', Ext μ H μ' H' -> Rv K μ' H' v w -> RS K T μ' H' M' -> Q w H') -> r [w] H Q) : SemL K T r (v1 op) := by
 intro H μ M xs ws v M' Q h r1 rs q
 match xs, h, r1 with
 | [x], h, r1 =>
  obtain ⟨w, e, r2⟩ := r1.one
  subst e
  exact hh H μ M x w v M' Q h r2 rs q
 | [], h, _ => cases h
 | _ :: _ :: _, h, _ => cases h
def vLen : Vl -> Mem -> Option (Vl × Mem)
 | .tup _ xs, M => some (.int xs.length, M)
 | .str z, M => if z.length <= lim then some (.int z.length, M) else none
 | .ref k, M => match seqAt M k with
  | some xs => some (.int xs.length, M)
  | none => none
 | _, _ => none
theorem sem_len {K : PySem.W.Frag} {T : Tb} : SemL K T (fun xs H Q => (∃ p ys, xs = [.ref p] /\ (SqL K H p ys \/ SqT K H p ys) /\ Q (.int ys.length) H) \/ (∃ z, xs = [.str z] /\ z.length <= sizeLine /\ Q (.int z.length) H)) (v1 vLen) := by
 refine semL1 fun H μ M x w v M' Q h r rs q => ?_
 ·cases r <;> simp only [vLen] at h <;> try (cases h; done)
  ·split at h
   ·cases h
    exact .inr ⟨_, rfl, le_lim (by assumption), q _ μ H (Ext.refl _ _) (.int _) rs⟩
   ·cases h
  ·cases h
   rename_i a _ xs ws sa ra na
   refine .inl ⟨a, ws, rfl, .inr sa, ?_⟩
   rw [ra.length] at q
   exact q _ μ H (Ext.refl _ _) (.int _) rs
  ·split at h
   ·cases h
    rename_i k a hk _ xs hs
    obtain ⟨o, g1, g2⟩ := seqAt_some hs
    obtain ⟨ws, sq, ra⟩ := rs.seq g1 g2 hk
    refine .inl ⟨a, ws, rfl, .inl sq, ?_⟩
    rw [ra.length] at q
    exact q _ μ H (Ext.refl _ _) (.int _) rs
   ·cases h
theorem se_len (hg : Glb F "len") (hm : F.mg "len" = none) (ha : SE F e f) (hs : ∀ env, starEach [e] env = (false, eval e env) :: starEach [] env := by intro _; rfl) : SE F (.Call (.Name "len" p) [e] [] pos) (eA (v1 vLen) (aCons f aNil)) :=
 se_blt (fun i => (F.hK i ▸ call_len_seq (X := F.X i)).or call_len_str) sem_len hg hm PySem.boot_len (sa_cons ha sa_nil hs) (he := hs)
def tyN (M : Mem) : Vl -> Option String
 | .non => some "NoneType"
 | .bl _ => some "bool"
 | .int _ => some "int"
 | .str _ => some "str"
 | .tup _ _ => some "tuple"
 | .ref k => match M[k]? with
  | some (.lst _) => some "list"
  | some (.dic _) => some "dict"
  | _ => none
 | .exc _ _ _ => none
def eIsi (T : String) (f : Fe) : Fe := fun ρ M => match f ρ M with
 | some (v, M1) => match tyN M1 v with
  | some t => (kitB t T).map fun b => (.bl b, M1)
  | none => none
 | none => none
theorem tyX_of {K : PySem.W.Frag} {T : Tb} {μ : List Addr} {H : Hp} {M : Mem} {x : Vl} {w : V} {t : String} (rs : RS K T μ H M) (r : Rv K μ H x w) (h : tyN M x = some t) : TyX K H w (.type t) := by
 cases r <;> simp only [tyN] at h
 ·cases h; exact .base .non
 ·cases h; exact .base (.bl _)
 ·cases h; exact .base (.int _)
 ·cases h; exact .base (.str _)
 ·cases h
  rename_i a _ xs ws sa ra na
  rcases sa with (h | ⟨o, h⟩) | ⟨o, its, n, h, hc, _⟩
  ·exact .base (.tup h)
  ·exact .fTuple h
  ·exact .kTuple h hc
 ·split at h
  ·cases h
   rename_i k a hk _ xs hs
   obtain ⟨ws, e, _⟩ := rs.lst hs hk
   exact .base (.lst e)
  ·cases h
   rename_i k a hk _ xs hs
   obtain ⟨ws, e, _⟩ := rs.mem.ob k _ a hs hk
   exact .base (.dK e)
  ·cases h
theorem se_isi {x : Str} {T : String} (hg : Glb F "isinstance") (hm : F.mg "isinstance" = none) (hgx : Glb F x) (hmx : F.mg x = none) (hv : bootBuiltins x = some (.type T)) (ha : SE F e f) (hs : ∀ env, starEach [e, .Name x p] env = (false, eval e env) :: starEach [.Name x p] env := by intro _; rfl)
  (hpl : ∀ env, (backTo pos (starEach [.Name x p] env)).any (·.1) = false := by intro _; rfl) (hn : x ≠ "__name__" := by decide) (hdb : (x == ("__debug__" : Str)) = false := by decide) (hb : bootBuiltins "isinstance" = some (.builtin "isinstance") := by decide +kernel) :
  SE F (.Call (.Name "isinstance" apos) [e, .Name x p] [] pos) (eIsi T f) := by
 obtain ⟨ta, pa, sa⟩ := ha
 refine ⟨_, fun i => pe_callB (F.hK i ▸ call_isi (X := F.X i)) (hg.gl i) (by rw [F.hmg i]; exact hm) hb (pa_cons (pa i) (pa_cons (pe_bltn (v := .ty T) (hgx.gl i) (by rw [F.hmg i]; exact hmx) hv rfl hn hdb) pa_nil) (hs _)) (by decide) (by decide) (hs _) (hpl _), fun σ H μ ρ M v M' Q h rσ rs q => ?_⟩
 unfold eIsi at h
 split at h
 ·split at h
  ·rename_i _ y M1 h1 _ t ht
   rw [Option.map_eq_some_iff] at h
   obtain ⟨b, hb', e⟩ := h
   cases e
   refine sa σ H μ ρ M _ _ _ h1 rσ rs fun w1 μ1 H1 e1 r1 s1 => ?_
   exact ⟨w1, .ty T, .type t, .type T, b, rfl, .ty T, tyX_of s1 r1 ht, kit_ty hb', q _ μ1 H1 e1 (.bl b) s1⟩
  ·cases h
 ·cases h
def vList : Vl -> Mem -> Option (Vl × Mem)
 | .tup _ xs, M => some (.ref M.length, M ++ [.lst xs])
 | .ref k, M => match seqAt M k with
  | some xs => some (.ref M.length, M ++ [.lst xs])
  | none => none
 | _, _ => none
theorem se_list (hg : Glb F "list") (hm : F.mg "list" = none) (ha : SE F e f) (hs : ∀ env, starEach [e] env = (false, eval e env) :: starEach [] env := by intro _; rfl) : SE F (.Call (.Name "list" p) [e] [] pos) (eA (v1 vList) (aCons f aNil)) := by
 refine se_bty (fun i => (F.hK i ▸ call_list_of (X := F.X i))) ?_ hg hm (by decide +kernel) (sa_cons ha sa_nil hs) (he := hs)
 refine semL1 fun H μ M x w v M' Q h r rs q => ?_
 ·cases r <;> simp only [vList] at h <;> try (cases h; done)
  ·cases h
   rename_i a _ xs ws sa ra na
   refine ⟨a, ws, rfl, .inr sa, fun p np => ?_⟩
   obtain ⟨s4, e4, r4⟩ := rs.alloc (u := .lst ws) (o := .lst _) np fun e => ⟨_, upd_same, ra.ext e⟩
   exact q _ _ _ e4 r4 s4
  ·split at h
   ·cases h
    rename_i k a hk _ xs hs
    obtain ⟨o, g1, g2⟩ := seqAt_some hs
    obtain ⟨ws, sq, ra⟩ := rs.seq g1 g2 hk
    refine ⟨a, ws, rfl, .inl sq, fun p np => ?_⟩
    obtain ⟨s4, e4, r4⟩ := rs.alloc (u := .lst ws) (o := .lst _) np fun e => ⟨_, upd_same, ra.ext e⟩
    exact q _ _ _ e4 r4 s4
   ·cases h
def vTuple : Vl -> Mem -> Option (Vl × Mem)
 | .tup d xs, M => some (.tup d xs, M)
 | .ref k, M => match seqAt M k with
  | some xs => some (.tup .nod xs, M)
  | none => none
 | _, _ => none
def rTupN (K : PySem.W.Frag) : List V -> Hp -> VK -> Prop := fun xs H Q => ∃ p ys, xs = [.ref p] /\ ((SqL K H p ys /\ ∀ (l : Addr) (o : Obj), H l = none -> o.dict = none -> Q (.ref l) (upd H l (.frz o (.tup ys)))) \/ (SqT K H p ys /\ Q (.ref p) H))
theorem call_tupN {X : Cx} : CallR X (.type "tuple") (rTupN X.K) := by
 intro pins s σ H xs us Q I rr h
 obtain ⟨p, ys, e, h⟩ := h
 subst e
 obtain ⟨u, eu, rx⟩ := vals1 rr
 subst eu
 cases rx
 rcases h with ⟨hq, q⟩ | ⟨hq, q⟩
 ·obtain ⟨its, rv, pl, hz⟩ := I.list hq
  have hlen := rv.length
  refine call_tuple_list pl.isList (fun hp kp => ?_) (by simp only [List.size_toArray] <;> omega)
  have J1 : Inv X pins σ H { s with heap := hp } := I.kept (t' := s.toks) kp
  have eo : (hp.push { cls := .type "tuple", data := .seq its.toArray }).get? hp.objs.size = some ({ cls := .type "tuple", data := .seq its.toArray } : Obj) := Heap.get?_push_size _ rfl
  have J2 : Inv X pins σ (upd H hp.objs.size (.frz { cls := .type "tuple", data := .seq its.toArray } (.tup ys))) { s with heap := hp.push { cls := .type "tuple", data := .seq its.toArray } } :=
   J1.laid (t' := s.toks) (fun b o e => Heap.get?_push_of_some _ e) (Nat.le_refl _) ⟨eo, hz, its, rv, IsTup.new _ _⟩
  exact ⟨.ref hp.objs.size, _, J2, rfl, q _ _ (J1.hok.fresh (Nat.le_refl _)) rfl⟩
 ·obtain ⟨its, rv, pl, hz⟩ := I.tuple hq
  exact call_tuple_same pl ⟨.ref p, H, I, rfl, q⟩
theorem se_tuple (hg : Glb F "tuple") (hm : F.mg "tuple" = none) (ha : SE F e f) (hs : ∀ env, starEach [e] env = (false, eval e env) :: starEach [] env := by intro _; rfl) : SE F (.Call (.Name "tuple" p) [e] [] pos) (eA (v1 vTuple) (aCons f aNil)) := by
 refine se_bty (fun i => (F.hK i ▸ call_tupN (X := F.X i))) ?_ hg hm (by decide +kernel) (sa_cons ha sa_nil hs) (he := hs)
 refine semL1 fun H μ M x w v M' Q h r rs q => ?_
 ·cases r <;> simp only [vTuple] at h <;> try (cases h; done)
  ·cases h
   rename_i a _ xs ws sa ra na
   exact ⟨a, ws, rfl, .inr ⟨sa, q _ μ H (Ext.refl _ _) (.tup sa ra na) rs⟩⟩
  ·split at h
   ·cases h
    rename_i k a hk _ xs hs
    obtain ⟨o, g1, g2⟩ := seqAt_some hs
    obtain ⟨ws, sq, ra⟩ := rs.seq g1 g2 hk
    refine ⟨a, ws, rfl, .inl ⟨sq, fun p o np no => ?_⟩⟩
    obtain ⟨s4, e4, r4⟩ := rs.tupN np ra no
    exact q _ _ _ e4 r4 s4
   ·cases h
def txts : List Vl -> Option (List Str)
 | [] => some []
 | .str b :: xs => (txts xs).map (b :: ·)
 | _ => none
theorem txts_ok {K : PySem.W.Frag} {μ : List Addr} {H : Hp} : ∀ {xs : List Vl} {ws : List V} {bs : List Str}, txts xs = some bs -> RvA K μ H xs ws -> ws = bs.map V.str
 | [], _, _, h, .nil => by cases h; rfl
 | x :: xs, _, _, h, .cons r rs => by
  cases r <;> simp only [txts] at h <;> try (cases h; done)
  rw [Option.map_eq_some_iff] at h
  obtain ⟨bs, h1, rfl⟩ := h
  rw [txts_ok h1 rs]
  rfl
def vJoin : Vl -> Vl -> Mem -> Option (Vl × Mem)
 | .str a, .ref k, M => match seqAt M k with
  | some xs => match txts xs with
   | some ys => if (ys.map (·.length)).sum + ys.length * a.length <= lim then some (.str (Txt.join a ys), M) else none
   | none => none
  | none => none
 | .str a, .tup _ xs, M => match txts xs with
   | some ys => if (ys.map (·.length)).sum + ys.length * a.length <= lim then some (.str (Txt.join a ys), M) else none
   | none => none
 | _, _, _ => none
theorem se_join (ho : SE F o fa) (he : SE F e f) (hs : ∀ env, starEach [e] env = [(false, eval e env)] := by intro _; rfl) (hbase : ∀ env, attributeBase o "join" env (eval o env) = eval o env := by intro _; rfl) (hline : (apos.endLine == pos.line) = true := by rfl) :
  SE F (.Call (.Attribute o "join" apos) [e] [] pos) (e2 vJoin fa f) := by
 obtain ⟨to, po, so⟩ := ho
 obtain ⟨te, pe, se⟩ := he
 refine ⟨_, fun i => F.hK i ▸ pe_join (po i) (pe i) (hs _) (hbase _) hline, fun σ H μ ρ M v M' Q h rσ rs q => ?_⟩
 obtain ⟨x, M1, y, M2, h1, h2, h3⟩ := e2_some h
 refine so σ H μ ρ M _ _ _ h1 rσ rs fun w1 μ1 H1 e1 r1 s1 => ?_
 have hx : ∃ a, x = .str a := by
  cases x <;> simp only [vJoin] at h3 <;> first | exact ⟨_, rfl⟩ | cases h3
 obtain ⟨a, rfl⟩ := hx
 cases r1
 refine ⟨⟨a, rfl⟩, se σ H1 μ1 ρ M1 _ _ _ h2 (rσ.ext e1) s1 fun w2 μ2 H2 e2 r2 s2 => ?_⟩
 have e12 := e1.trans e2
 cases r2 <;> simp only [vJoin] at h3 <;> try (cases h3; done)
 ·rename_i b _ xs ws sa ra na
  split at h3
  ·split at h3
   ·cases h3
    have ew := txts_ok (by assumption) ra
    subst ew
    exact ⟨a, b, _, rfl, rfl, .inr sa, Nat.le_trans (by assumption) (by decide), q _ μ2 H2 e12 (.str _) s2⟩
   ·cases h3
  ·cases h3
 ·rename_i k b hk
  split at h3
  ·split at h3
   ·split at h3
    ·cases h3
     obtain ⟨o, g1, g2⟩ := seqAt_some (by assumption)
     obtain ⟨ws, sq, ra⟩ := s2.seq g1 g2 hk
     have ew := txts_ok (by assumption) ra
     subst ew
     exact ⟨a, b, _, rfl, rfl, .inl sq, Nat.le_trans (by assumption) (by decide), q _ μ2 H2 e12 (.str _) s2⟩
    ·cases h3
   ·cases h3
  ·cases h3
def vSIndex : Vl -> Vl -> Mem -> Option (Vl × Mem)
 | .str a, .str b, M => match Builtin.Str.occurrences a b 0 a.length 1 with
  | i :: _ => some (.int (i : Nat), M)
  | [] => none
 | _, _, _ => none
theorem se_sindex (ho : SE F o fa) (he : SE F e f) (hs : ∀ env, starEach [e] env = [(false, eval e env)] := by intro _; rfl) (hbase : ∀ env, attributeBase o "index" env (eval o env) = eval o env := by intro _; rfl) (hline : (apos.endLine == pos.line) = true := by rfl) :
  SE F (.Call (.Attribute o "index" apos) [e] [] pos) (e2 vSIndex fa f) := by
 obtain ⟨to, po, so⟩ := ho
 obtain ⟨te, pe, se⟩ := he
 refine ⟨_, fun i => pe_m1 PySem.F.slot_str_index PySem.F.type_str_index mt_sindex (po i) (pe i) (hs _) (hbase _) hline, fun σ H μ ρ M v M' Q h rσ rs q => ?_⟩
 obtain ⟨x, M1, y, M2, h1, h2, h3⟩ := e2_some h
 refine so σ H μ ρ M _ _ _ h1 rσ rs fun w1 μ1 H1 e1 r1 s1 => ?_
 have hx : ∃ a b, x = .str a /\ y = .str b := by
  cases x <;> cases y <;> simp only [vSIndex] at h3 <;> first | exact ⟨_, _, rfl, rfl⟩ | cases h3
 obtain ⟨a, b, rfl, rfl⟩ := hx
 cases r1
 refine ⟨⟨a, rfl⟩, se σ H1 μ1 ρ M1 _ _ _ h2 (rσ.ext e1) s1 fun w2 μ2 H2 e2 r2 s2 => ?_⟩
 cases r2
 simp only [vSIndex] at h3
 split at h3
 ·cases h3
  exact ⟨a, b, _, _, rfl, rfl, by assumption, q _ μ2 H2 (e1.trans e2) (.int _) s2⟩
 ·cases h3
end
end Sh
namespace Sh
open PySem PySem.Spec PyProof.Rows L2 NdefX GenE
open GxR (TabB TabG Tabbed)
section
variable {F : Fam} {e a b c o tg : Expr} {f fa fb fc : Fe} {pos p apos : Pos} {es : List Expr} {g : Fa}
def vApp : Vl -> Vl -> Mem -> Option (Vl × Mem)
 | .ref k, y, M => match M[k]? with
  | some (.lst xs) => if xs.length < lim then some (.non, M.set k (.lst (xs ++ [y]))) else none
  | _ => none
 | _, _, _ => none
theorem noSt_lst {ws : List V} : NoSt (.lst ws) := ⟨fun _ z => (by cases z), fun _ _ z => (by cases z), fun _ z => (by cases z)⟩
/-- the argument may not take the list away: said by the store behind it -/
def eApp (fa f : Fe) : Fe := fun ρ M => match fa ρ M with
 | some (.ref k, M1) => match seqAt M1 k with
  | some _ => match f ρ M1 with
   | some (y, M2) => vApp (.ref k) y M2
   | none => none
  | none => none
 | _ => none
theorem se_append (ho : SE F o fa) (he : SE F e f) (hs : ∀ env, starEach [e] env = (false, eval e env) :: starEach [] env := by intro _; rfl) (hbase : ∀ env, attributeBase o "append" env (eval o env) = eval o env := by intro _; rfl)
  (hfew : ∀ env, ((backTo pos (starEach [e] env)).all (fun x => !x.1) && (backToKw pos (keywordEach [] env)).all (fun x => x.1.isSome) && decide (([e] : List Expr).length + ([] : List Keyword).length + (if ([] : List Keyword).isEmpty then 0 else 1) < 30)) = true := by intro _; rfl)
  (hline : (apos.endLine == pos.line) = true := by rfl) : SE F (.Call (.Attribute o "append" apos) [e] [] pos) (eApp fa f) := by
 obtain ⟨to, po, so⟩ := ho
 obtain ⟨te, pe, se⟩ := he
 refine ⟨_, fun i => F.hK i ▸ pe_bm PySem.F.plainAttrs_list PySem.F.slot_list_append PySem.F.type_list_append mt_append (po i) (pa_cons (pe i) pa_nil (hs _)) (hbase _) (hfew _) hline (hs _) rfl, fun σ H μ ρ M v M' Q h rσ rs q => ?_⟩
 unfold eApp at h
 split at h
 ·rename_i _ k M1 h1
  split at h
  ·rename_i _ xs0 h0
   split at h
   ·rename_i _ y M2 h2
    refine so σ H μ ρ M _ _ _ h1 rσ rs fun w1 μ1 H1 e1 r1 s1 => ?_
    cases r1
    rename_i a ha
    obtain ⟨o0, g1, g2⟩ := seqAt_some h0
    obtain ⟨ws0, sq0, _⟩ := s1.seq g1 g2 ha
    refine ⟨.inl ⟨rfl, ws0, sq0⟩, ?_⟩
    refine se σ H1 μ1 ρ M1 _ _ _ h2 (rσ.ext e1) s1 fun w2 μ2 H2 e2 r2 s2 => ?_
    simp only [vApp] at h
    split at h
    ·split at h
     ·cases h
      rename_i xs hk hl
      obtain ⟨ws, e3, r3⟩ := s2.lst hk (e2.at ha)
      refine ⟨a, ws, w2, rfl, rfl, e3, by rw [<- r3.length]; exact Nat.lt_of_lt_of_le hl lim_line, ?_⟩
      obtain ⟨s4, e4⟩ := s2.write (u := .lst (ws ++ [w2])) (o' := .lst (xs ++ [y])) hk rfl (e2.at ha) noSt_lst rfl fun e => ⟨_, upd_same, (r3.append (.cons r2 .nil)).ext e⟩
      exact q _ μ2 _ ((e1.trans e2).trans e4) .non s4
     ·cases h
    ·cases h
   ·cases h
  ·cases h
 ·cases h
/-- what a target does with a value; ks the slots that it may change -/
abbrev Fg := Vl -> Env -> Mem -> Option (Env × Mem)
def Only (ks : List Nat) (σ σ' : L2.St) : Prop := σ'.length = σ.length /\ ∀ j, j ∉ ks -> σ'[j]? = σ[j]?
theorem Only.refl (ks : List Nat) (σ : L2.St) : Only ks σ σ := ⟨rfl, fun _ _ => rfl⟩
theorem Only.trans {ks : List Nat} {σ σ1 σ2 : L2.St} (a : Only ks σ σ1) (b : Only ks σ1 σ2) : Only ks σ σ2 := ⟨b.1.trans a.1, fun j h => (b.2 j h).trans (a.2 j h)⟩
theorem Only.mono {ks ks' : List Nat} {σ σ1 : L2.St} (a : Only ks σ σ1) (h : ∀ k ∈ ks, k ∈ ks') : Only ks' σ σ1 := ⟨a.1, fun j hj => a.2 j fun z => hj (h j z)⟩
theorem Only.wipe {vs : List Nat} {σ σ' : L2.St} (h : Only vs (wipe σ vs) σ') : wipe σ' vs = wipe σ vs := by
 have lw : ∀ (τ : L2.St) (ws : List Nat) (j : Nat), j ∈ ws -> (L2.wipe τ ws)[j]? = if j < τ.length then some none else none := by
  intro τ ws
  induction ws with
  | nil => intro j hj; cases hj
  | cons v ws ih =>
   intro j hj
   unfold L2.wipe
   by_cases hv : v = j
   ·subst hv
    rw [List.getElem?_set]
    simp [wipe_length]
   ·rw [List.getElem?_set_ne hv]
    exact ih j (by rcases List.mem_cons.mp hj with z | z; exact absurd z.symm hv; exact z)
 apply List.ext_getElem?
 intro j
 have hl : σ'.length = σ.length := by rw [h.1, wipe_length]
 by_cases hj : j ∈ vs
 ·rw [lw _ _ _ hj, lw _ _ _ hj, hl]
 ·rw [wipe_out hj, h.2 j hj]
def SG (F : Fam) (tg : Expr) (f : Fg) (ks : List Nat) : Prop := ∃ t, (∀ i, PG (F.X i) tg t) /\ ∀ (σ : L2.St) (H : Hp) (μ : List Addr) (ρ : Env) (M : Mem) (v : Vl) (w : V) (ρ' : Env) (M' : Mem) (Q : L2.St -> Hp -> Prop), f v ρ M = some (ρ', M') -> Rv F.K μ H v w -> Rσ F.K μ H ρ σ -> RS F.K F.T μ H M ->
 (∀ σ' μ' H', Ext μ H μ' H' -> Rσ F.K μ' H' ρ' σ' -> RS F.K F.T μ' H' M' -> Only ks σ σ' -> Q σ' H') -> t w σ H Q
def gN (i : Nat) : Fg := fun v ρ M => some (ρ.set i (some v), M)
def LocF (F : Fam) (x : Str) : Prop := F.sc.names.lookup x = some .local \/ (F.sc.names.lookup x = some .cell /\ F.fn = true)
theorem LocF.loc {x : Str} (h : LocF F x) (i : F.ι) : Loc (F.X i).env.scope x := by
 rw [F.hsc i]
 exact h.elim .inl fun z => .inr z.1
theorem LocF.fn {x : Str} (h : LocF F x) (i : F.ι) : (F.X i).fn x = true \/ (F.X i).env.scope.names.lookup x = some .local := by
 rw [F.hsc i]
 exact h.elim .inr fun z => .inl (F.hfn z.2 i x)
theorem only_set {i : Nat} {x : Option V} {σ : L2.St} : Only [i] σ (σ.set i x) := ⟨by simp, fun j hj => List.getElem?_set_ne fun z => hj (by simp [z])⟩
theorem sg_name {x : Str} (i : Nat) (hN : F.N.Nodup) (hi : F.N[i]? = some x := by rfl) (hx : LocF F x := by first | exact Or.inl rfl | exact Or.inr ⟨rfl, rfl⟩) : SG F (.Name x pos) (gN i) [i] := by
 refine ⟨gName i, fun j => pg_name (by rw [F.hN j]; exact hN) (by rw [F.hN j]; exact hi) (hx.loc j) (hx.fn j), fun σ H μ ρ M v w ρ' M' Q h rv rσ rs q => ?_⟩
 cases h
 exact q _ μ H (Ext.refl _ _) (rσ.set rv) rs only_set
/-- several names -/
abbrev Fgs := List Vl -> Env -> Mem -> Option (Env × Mem)
def SGs (F : Fam) (tgs : List Expr) (f : Fgs) (ks : List Nat) : Prop := ∃ t, (∀ i, PGs (F.X i) tgs t) /\ ∀ (σ : L2.St) (H : Hp) (μ : List Addr) (ρ : Env) (M : Mem) (vs : List Vl) (ws : List V) (ρ' : Env) (M' : Mem) (Q : L2.St -> Hp -> Prop), f vs ρ M = some (ρ', M') -> RvA F.K μ H vs ws -> Rσ F.K μ H ρ σ -> RS F.K F.T μ H M ->
 (∀ σ' μ' H', Ext μ H μ' H' -> Rσ F.K μ' H' ρ' σ' -> RS F.K F.T μ' H' M' -> Only ks σ σ' -> Q σ' H') -> t ws σ H Q
def gsNil : Fgs := fun vs ρ M => match vs with
 | [] => some (ρ, M)
 | _ => none
def gsCons (f : Fg) (g : Fgs) : Fgs := fun vs ρ M => match vs with
 | v :: r => match f v ρ M with
  | some (ρ1, M1) => g r ρ1 M1
  | none => none
 | [] => none
theorem sgs_nil : SGs F [] gsNil [] := by
 refine ⟨gNil, fun _ => pgs_nil, fun σ H μ ρ M vs ws ρ' M' Q h rv rσ rs q => ?_⟩
 unfold gsNil at h
 split at h
 ·cases h
  cases rv
  exact ⟨rfl, q _ μ H (Ext.refl _ _) rσ rs (Only.refl _ _)⟩
 ·cases h
theorem sgs_cons {tgs : List Expr} {fg : Fg} {fgs : Fgs} {ks ks' : List Nat} (h1 : SG F tg fg ks) (h2 : SGs F tgs fgs ks') (hs : ∀ env, (assignEach (tg :: tgs) env).map (·.2) = assign tg env :: (assignEach tgs env).map (·.2) := by intro _; rfl) : SGs F (tg :: tgs) (gsCons fg fgs) (ks ++ ks') := by
 obtain ⟨t, p, s⟩ := h1
 obtain ⟨t', p', s'⟩ := h2
 refine ⟨gCons t t', fun i => pgs_cons (p i) (p' i) (hs _), fun σ H μ ρ M vs ws ρ' M' Q h rv rσ rs q => ?_⟩
 unfold gsCons at h
 split at h
 ·split at h
  ·cases rv with
   | cons r rr =>
    refine ⟨_, _, rfl, s σ H μ ρ M _ _ _ _ _ (by assumption) r rσ rs fun σ1 μ1 H1 e1 r1 s1 o1 => ?_⟩
    exact s' σ1 H1 μ1 _ _ _ _ ρ' M' _ h (rr.ext e1) r1 s1 fun σ2 μ2 H2 e2 r2 s2 o2 => q σ2 μ2 H2 (e1.trans e2) r2 s2 ((o1.mono (by simp; exact fun k hk => .inl hk)).trans (o2.mono (by simp; exact fun k hk => .inr hk)))
  ·cases h
 ·cases h
def gT (n : Nat) (g : Fgs) : Fg := fun v ρ M => match v with
 | .tup _ xs => if xs.length = n then g xs ρ M else none
 | _ => none
theorem sg_tup {tgs : List Expr} {fgs : Fgs} {n kk : Nat} {ks : List Nat} (h : SGs F tgs fgs ks) (hn : ∀ env, (assignEach tgs env).length = n := by intro _; rfl) (hst : ∀ env, (assignEach tgs env).findIdx? (·.1) = none := by intro _; rfl) : SG F (.Tuple tgs kk pos) (gT n fgs) ks := by
 obtain ⟨t, p, s⟩ := h
 refine ⟨gTup F.K n t, fun i => F.hK i ▸ pg_tup (F.hcalm i) (p i) (hn _) (hst _), fun σ H μ ρ M v w ρ' M' Q h rv rσ rs q => ?_⟩
 unfold gT at h
 split at h
 ·split at h
  ·cases rv with
   | tup sq r _ =>
    exact ⟨_, _, rfl, sq, by rw [<- r.length]; assumption, s σ H μ ρ M _ _ ρ' M' Q h r rσ rs q⟩
  ·cases h
 ·cases h
/-- o[i] = v of a list -/
def gSb (fa fb : Fe) : Fg := fun v ρ M => match fa ρ M with
 | some (.ref k, M1) => match fb ρ M1 with
  | some (.int i, M2) => match M2[k]? with
   | some (.lst xs) => match ixN xs.length i with
    | some j => some (ρ, M2.set k (.lst (xs.set j v)))
    | none => none
   | _ => none
  | _ => none
 | _ => none
theorem sg_sub (ha : SE F a fa) (hb : SE F b fb) (hs : ∀ env v, assign (.Subscript a b pos) env v = (do
   let ov <- holding [v] (eval a env)
   let iv <- holding [v, ov] (eval b env)
   standAt pos
   holding [v, ov, iv] (setItem ov iv v)
   release [v, ov, iv] []) := by intro _ _; rfl) : SG F (.Subscript a b pos) (gSb fa fb) [] := by
 obtain ⟨ta, pa, sa⟩ := ha
 obtain ⟨tb, pb, sb⟩ := hb
 refine ⟨_, fun i => pg_sub (pa i) (pb i) set_list (hs _), fun σ H μ ρ M v w ρ' M' Q h rv rσ rs q => ?_⟩
 unfold gSb at h
 split at h
 ·split at h
  ·split at h
   ·split at h
    ·cases h
     rename_i _ k M1 h1 _ i M2 h2 _ xs h3 _ j h4
     refine sa σ H μ ρ M _ _ _ h1 rσ rs fun w1 μ1 H1 e1 r1 s1 => ?_
     refine sb σ H1 μ1 ρ M1 _ _ _ h2 (rσ.ext e1) s1 fun w2 μ2 H2 e2 r2 s2 => ?_
     cases r1 with
     | ref ha =>
      cases r2
      obtain ⟨ws, e3, r3⟩ := s2.lst h3 (e2.at ha)
      refine ⟨_, ws, i, j, rfl, rfl, e3, by rw [<- r3.length]; exact h4, ?_⟩
      obtain ⟨s4, e4⟩ := s2.write (u := .lst (ws.set j w)) (o' := .lst (xs.set j v)) h3 rfl (e2.at ha) noSt_lst rfl fun e => ⟨_, upd_same, (RvA.set (rv.ext (e1.trans e2)) j r3).ext e⟩
      exact q σ μ2 _ ((e1.trans e2).trans e4) (rσ.ext ((e1.trans e2).trans e4)) s4 (Only.refl _ _)
    ·cases h
   ·cases h
  ·cases h
 ·cases h
def sAsg (f : Fe) (g : Fg) : Fs := fun ρ M => match f ρ M with
 | some (v, M1) => match g v ρ M1 with
  | some (ρ', M2) => some (.nx, ρ', M2)
  | none => none
 | none => none
theorem semAsg {te : TE} {t : TG} {fg : Fg} {ks : List Nat} (he : SemE F.K F.T te f) (hg : ∀ (σ : L2.St) (H : Hp) (μ : List Addr) (ρ : Env) (M : Mem) (v : Vl) (w : V) (ρ' : Env) (M' : Mem) (Q : L2.St -> Hp -> Prop), fg v ρ M = some (ρ', M') -> Rv F.K μ H v w -> Rσ F.K μ H ρ σ -> RS F.K F.T μ H M ->
 (∀ σ' μ' H', Ext μ H μ' H' -> Rσ F.K μ' H' ρ' σ' -> RS F.K F.T μ' H' M' -> Only ks σ σ' -> Q σ' H') -> t w σ H Q) : SemS F.K F.T (tAsg te t) (sAsg f fg) := by
 intro σ H μ ρ M o ρ' M' D h rσ rs q
 unfold sAsg at h
 split at h
 ·split at h
  ·cases h
   refine he σ H μ ρ M _ _ _ (by assumption) rσ rs fun w1 μ1 H1 e1 r1 s1 => ?_
   exact hg σ H1 μ1 ρ _ _ w1 _ _ _ (by assumption) r1 (rσ.ext e1) s1 fun σ2 μ2 H2 e2 r2 s2 _ => q σ2 μ2 H2 (e1.trans e2) r2 s2
  ·cases h
 ·cases h
theorem ss_asg {fg : Fg} {ks : List Nat} (he : SE F e f) (hg : SG F tg fg ks) (hs : ∀ env, swapsWithSole [tg] e pos.line env = pure false := by intro _; rfl) (hw : ∀ env, swappedStores [tg] e env = pure none := by intro _; rfl)
  (h1 : ∀ env, (assignEach [tg] env).map (·.2) = [assign tg env] := by intro _; rfl) : SS F (.Assign [tg] e pos) (sAsg f fg) := by
 obtain ⟨te, pe, se⟩ := he
 obtain ⟨t, p, s⟩ := hg
 exact ⟨_, fun i => ps_asg (pe i) (p i) (hs _) (hw _) (h1 _), semAsg se s⟩
theorem ss_set {x : Str} (i : Nat) (hN : F.N.Nodup) (he : SE F e f) (hi : F.N[i]? = some x := by rfl) (hx : LocF F x := by first | exact Or.inl rfl | exact Or.inr ⟨rfl, rfl⟩) (hs : ∀ env, swapsWith e (some (.Name x p)) pos.line env = pure false := by intro _; rfl) :
  SS F (.Assign [.Name x p] e pos) (sAsg f (gN i)) := by
 obtain ⟨te, pe, se⟩ := he
 obtain ⟨t, pp, s⟩ := sg_name (pos := p) i hN hi hx
 refine ⟨_, fun j => ps_set (by rw [F.hN j]; exact hN) (by rw [F.hN j]; exact hi) (hx.loc j) (pe j) (hs _) (hx.fn j), semAsg (ks := [i]) se fun σ H μ ρ M v w ρ' M' Q h rv rσ rs q => ?_⟩
 cases h
 exact q _ μ H (Ext.refl _ _) (rσ.set rv) rs only_set
end
end Sh
namespace Sh
open PySem PySem.Spec PyProof.Rows L2 NdefX GenE
open GxR (TabB TabG Tabbed)
/-- what is walked: its items, as they stand -/
abbrev Src := Mem -> Option (List Vl)
abbrev Fi := Env -> Mem -> Option (Src × Nat × Mem)
def ItOk (K : PySem.W.Frag) (T : Tb) (J : It) (src : Src) (μ0 : List Addr) (H0 : Hp) : Prop := ∀ (i : Nat) (μ : List Addr) (H : Hp) (M : Mem) (xs : List Vl), Ext μ0 H0 μ H -> RS K T μ H M -> src M = some xs ->
 (xs[i]? = none -> J.stop i H) /\ ∀ x, xs[i]? = some x -> J.go i H /\ ∀ w H', J.yld i H w H' -> Ext μ H μ H' /\ Rv K μ H' x w /\ RS K T μ H' M
def SI (F : Fam) (tg iter : Expr) (f : Fi) : Prop := ∃ wi, (∀ i, PI (F.X i) tg iter wi) /\ ∀ (σ : L2.St) (H : Hp) (μ : List Addr) (ρ : Env) (M : Mem) (src : Src) (n : Nat) (M' : Mem) (R : It -> Hp -> Prop), f ρ M = some (src, n, M') -> Rσ F.K μ H ρ σ -> RS F.K F.T μ H M ->
 (∀ J μ' H', Ext μ H μ' H' -> RS F.K F.T μ' H' M' -> ItOk F.K F.T J src μ' H' -> R J H') -> wi σ H R
def signs (z : Str) : List Vl := z.cps.toList.map fun c => .str ⟨#[c]⟩
def iSeq (f : Fe) : Fi := fun ρ M => match f ρ M with
 | some (.tup _ xs, M1) => some (fun _ => some xs, xs.length, M1)
 | some (.str z, M1) => some (fun _ => some (signs z), z.length, M1)
 | some (.ref k, M1) => match seqAt M1 k with
  | some xs => some (fun M => seqAt M k, xs.length, M1)
  | none => none
 | _ => none
theorem PI.or {X : Cx} {tg iter : Expr} {w1 w2 : TI} (h1 : PI X tg iter w1) (h2 : PI X tg iter w2) : PI X tg iter (fun σ H R => w1 σ H R \/ w2 σ H R) :=
 ⟨fun pins s σ H R I h => h.elim (fun z => h1.run pins s σ H R I z) fun z => h2.run pins s σ H R I z⟩
section
variable {F : Fam} {e a b c o tg iter : Expr} {f fa fb fc : Fe} {pos p apos : Pos} {es : List Expr} {g : Fa}
theorem get_none {α β : Type} {xs : List α} {ws : List β} (h : xs.length = ws.length) {i : Nat} (e : xs[i]? = none) : ws.length <= i := by
 rw [<- h]
 exact List.getElem?_eq_none_iff.mp e
theorem si_seq (h : SE F iter f) : SI F tg iter (iSeq f) := by
 obtain ⟨te, pe, se⟩ := h
 refine ⟨_, fun i => PI.or (F.hK i ▸ pi_tup (X := F.X i) (pe i)) (PI.or (F.hK i ▸ pi_list (X := F.X i) (pe i)) (pi_str (pe i))), fun σ H μ ρ M src n M' R h rσ rs q => ?_⟩
 unfold iSeq at h
 split at h
 ·cases h
  refine .inl (se σ H μ ρ M _ _ _ (by assumption) rσ rs fun w1 μ1 H1 e1 r1 s1 => ?_)
  cases r1 with
  | @tup a _ xs ws sq r _ =>
   refine ⟨a, rfl, ⟨ws, sq⟩, q _ μ1 H1 e1 s1 fun i μ2 H2 M2 ys e2 s2 hy => ?_⟩
   cases hy
   have sq2 := e2.sqT sq
   refine ⟨fun hn => ⟨ws, sq2, get_none r.length hn⟩, fun x hx => ?_⟩
   obtain ⟨w, hw, rv⟩ := (r.ext e2).get hx
   refine ⟨⟨ws, w, sq2, hw⟩, fun w' H' hy => ?_⟩
   obtain ⟨rfl, hy⟩ := hy
   have := hy ws sq2
   rw [hw] at this
   cases this
   exact ⟨Ext.refl _ _, rv, s2⟩
 ·cases h
  refine .inr (.inr (se σ H μ ρ M _ _ _ (by assumption) rσ rs fun w1 μ1 H1 e1 r1 s1 => ?_))
  cases r1
  rename_i z hf
  refine ⟨z, rfl, q _ μ1 H1 e1 s1 fun i μ2 H2 M2 ys e2 s2 hy => ?_⟩
  cases hy
  have hlen : (signs z).length = z.cps.size := by unfold signs; simp
  refine ⟨fun hn => ?_, fun x hx => ?_⟩
  ·have := List.getElem?_eq_none_iff.mp hn
   show z.cps.size <= i
   omega
  ·have hi : i < z.cps.size := by
    have := (List.getElem?_eq_some_iff.mp hx).1
    omega
   refine ⟨hi, fun w' H' hy => ?_⟩
   obtain ⟨rfl, cc, hc, rfl⟩ := hy
   refine ⟨Ext.refl _ _, ?_, s2⟩
   unfold signs at hx
   rw [List.getElem?_map, Array.getElem?_toList, hc] at hx
   cases hx
   exact .str _
 ·split at h
  ·cases h
   refine .inr (.inl (se σ H μ ρ M _ _ _ (by assumption) rσ rs fun w1 μ1 H1 e1 r1 s1 => ?_))
   cases r1 with
   | ref ha =>
    rename_i k xs hs a hf
    obtain ⟨o0, g1, g2⟩ := seqAt_some (by assumption)
    obtain ⟨ws0, sq0, _⟩ := s1.seq g1 g2 ha
    refine ⟨_, rfl, ⟨ws0, sq0⟩, q _ μ1 H1 e1 s1 fun i μ2 H2 M2 ys e2 s2 hy => ?_⟩
    obtain ⟨o1, g3, g4⟩ := seqAt_some hy
    obtain ⟨ws, sq, r⟩ := s2.seq g3 g4 (e2.at ha)
    refine ⟨fun hn => ⟨ws, sq, get_none r.length hn⟩, fun x hx => ?_⟩
    obtain ⟨w, hw, rv⟩ := r.get hx
    refine ⟨⟨ws, w, sq, hw⟩, fun w' H' hy => ?_⟩
    obtain ⟨rfl, hy⟩ := hy
    have := hy ws sq
    rw [hw] at this
    cases this
    exact ⟨Ext.refl _ _, rv, s2⟩
  ·cases h
 ·cases h
def rng (lo : Int) (n : Nat) : List Vl := (List.range n).map fun (k : Nat) => .int (lo + k)
theorem it_range {K : PySem.W.Frag} {T : Tb} {lo : Int} {n : Nat} {μ : List Addr} {H : Hp} : ItOk K T (Itr lo n) (fun _ => some (rng lo n)) μ H := by
 intro i μ2 H2 M2 ys e2 s2 hy
 cases hy
 have hlen : (rng lo n).length = n := by unfold rng; simp
 refine ⟨fun hn => ?_, fun x hx => ?_⟩
 ·have := List.getElem?_eq_none_iff.mp hn
  show n <= i
  omega
 ·have hi : i < n := by
   have := (List.getElem?_eq_some_iff.mp hx).1
   omega
  refine ⟨hi, fun w' H' hy => ?_⟩
  obtain ⟨rfl, rfl⟩ := hy
  refine ⟨Ext.refl _ _, ?_, s2⟩
  unfold rng at hx
  rw [List.getElem?_map, List.getElem?_range hi] at hx
  cases hx
  exact .int _
def iRange1 (f : Fe) : Fi := fun ρ M => match f ρ M with
 | some (.int j, M1) => if -(2 ^ 62) <= j /\ j < 2 ^ 62 then some (fun _ => some (rng 0 j.toNat), j.toNat, M1) else none
 | _ => none
theorem si_range1 (hg : Glb F "range") (hm : F.mg "range" = none) (h : SE F a f) (hs : ∀ env, starEach [a] env = [(false, eval a env)] := by intro _; rfl) : SI F tg (.Call (.Name "range" p) [a] [] pos) (iRange1 f) := by
 obtain ⟨te, pe, se⟩ := h
 refine ⟨_, fun i => pi_range1 (hg.gl i) (by rw [F.hmg i]; exact hm) (pa_cons (pe i) pa_nil (hs _)) (hs _), fun σ H μ ρ M src n M' R h rσ rs q => ?_⟩
 unfold iRange1 at h
 split at h
 ·split at h
  ·rename_i hc
   cases h
   refine se σ H μ ρ M _ _ _ (by assumption) rσ rs fun w1 μ1 H1 e1 r1 s1 => ?_
   cases r1
   exact ⟨_, rfl, hc.1, hc.2, q _ μ1 H1 e1 s1 it_range⟩
  ·cases h
 ·cases h
def forL (src : Src) (g : Fg) (body : Fs) : Nat -> Nat -> Env -> Mem -> Option (Out × Env × Mem)
 | 0, i, ρ, M => match src M with
  | some xs => match xs[i]? with
   | none => some (.nx, ρ, M)
   | some _ => none
  | none => none
 | n + 1, i, ρ, M => match src M with
  | some xs => match xs[i]? with
   | none => some (.nx, ρ, M)
   | some x => match g x ρ M with
    | some (ρ1, M1) => match body ρ1 M1 with
     | some (.nx, ρ2, M2) => forL src g body n (i + 1) ρ2 M2
     | some (.ct, ρ2, M2) => forL src g body n (i + 1) ρ2 M2
     | some (.bk, ρ2, M2) => some (.nx, ρ2, M2)
     | some (.rt v, ρ2, M2) => some (.rt v, ρ2, M2)
     | none => none
    | none => none
  | none => none
def sFor (fi : Fi) (g : Fg) (body : Fs) : Fs := fun ρ M => match fi ρ M with
 | some (src, n, M1) => forL src g body n 0 ρ M1
 | none => none
theorem ss_for {fi : Fi} {fg : Fg} {ks : List Nat} {body : List Stmt} {s : Fs} (hi : SI F tg iter fi) (hg : SG F tg fg ks) (hb : SSs F body s) (hs : ∀ env x, foldedSetIterable iter env x = pure x := by intro _ _; rfl) :
  SS F (.For tg iter body [] pos) (sFor fi fg s) := by
 obtain ⟨wi, pi, si⟩ := hi
 obtain ⟨tg', pg, sg⟩ := hg
 obtain ⟨tb, pb, sb⟩ := hb
 refine ⟨_, fun i => ps_for (F.hp i) (F.hcalm i) (pi i) (pg i) (pb i) (hs _), fun σ H μ ρ M o ρ' M' D h rσ rs q => ?_⟩
 unfold sFor at h
 split at h
 ·rename_i _ src n M1 h1
  refine si σ H μ ρ M _ _ _ _ h1 rσ rs fun J μ1 H1 e1 s1 it => ?_
  refine ⟨fun i m σ' H' => ∃ μ' ρ1 M2, Ext μ1 H1 μ' H' /\ Rσ F.K μ' H' ρ1 σ' /\ RS F.K F.T μ' H' M2 /\ forL src fg s m i ρ1 M2 = some (o, ρ', M'), ⟨n, μ1, ρ, M1, Ext.refl _ _, rσ.ext e1, s1, h⟩, ?_⟩
  rintro i m σ2 H2 ⟨μ2, ρ2, M2, e2, r2, s2, h2⟩
  have stop : ∀ (xs : List Vl), src M2 = some xs -> xs[i]? = none -> some (Out.nx, ρ2, M2) = some (o, ρ', M') -> J.stop i H2 /\ D.nx σ2 H2 := fun xs hx hn he => by
   cases he
   exact ⟨(it i μ2 H2 _ xs e2 s2 hx).1 hn, q σ2 μ2 H2 (e1.trans e2) r2 s2⟩
  cases m with
  | zero =>
   unfold forL at h2
   split at h2
   ·split at h2
    ·exact .inl (stop _ (by assumption) (by assumption) h2)
    ·cases h2
   ·cases h2
  | succ m =>
   unfold forL at h2
   split at h2
   ·rename_i _ xs hx
    split at h2
    ·exact .inl (stop _ (by assumption) (by assumption) h2)
    ·rename_i _ x hxi
     obtain ⟨go, yl⟩ := (it i μ2 H2 M2 xs e2 s2 hx).2 x hxi
     refine .inr ⟨go, fun σ' H' => ∃ μ' ρ1 M3, Ext μ1 H1 μ' H' /\ Rσ F.K μ' H' ρ1 σ' /\ RS F.K F.T μ' H' M3 /\ forL src fg s m (i + 1) ρ1 M3 = some (o, ρ', M'), fun σ' H' hN => ⟨m, Nat.lt_succ_self _, hN⟩, fun w H3 hy => ?_⟩
     obtain ⟨e3, r3, s3⟩ := yl w H3 hy
     split at h2
     ·refine sg σ2 H3 μ2 ρ2 M2 x w _ _ _ (by assumption) r3 (r2.ext e3) s3 fun σ4 μ4 H4 e4 r4 s4 _ => ?_
      have e14 := (e2.trans e3).trans e4
      split at h2
      ·refine sb σ4 H4 μ4 _ _ .nx _ _ _ (by assumption) r4 s4 fun σ5 μ5 H5 e5 r5 s5 => ⟨μ5, _, _, e14.trans e5, r5, s5, h2⟩
      ·refine sb σ4 H4 μ4 _ _ .ct _ _ _ (by assumption) r4 s4 fun σ5 μ5 H5 e5 r5 s5 => ⟨μ5, _, _, e14.trans e5, r5, s5, h2⟩
      ·cases h2
       refine sb σ4 H4 μ4 _ _ .bk _ _ _ (by assumption) r4 s4 fun σ5 μ5 H5 e5 r5 s5 => q σ5 μ5 H5 ((e1.trans e14).trans e5) r5 s5
      ·cases h2
       refine sb σ4 H4 μ4 _ _ (.rt _) _ _ _ (by assumption) r4 s4 fun w5 μ5 H5 e5 r5 s5 => q w5 μ5 H5 ((e1.trans e14).trans e5) r5 s5
      ·cases h2
     ·cases h2
   ·cases h2
 ·cases h
end
end Sh
namespace Sh
open PySem PySem.Spec PyProof.Rows L2 NdefX GenE
open GxR (TabB TabG Tabbed)
def Fam.blk (F : Fam) (scope : Scope) : Fam where
 ι := F.ι × Shared × Hp × Addr × List (Str × Addr) × List Addr
 X := fun i => (F.X i.1).blk i.2.1 i.2.2.1 scope (compEnvC scope i.2.2.2.2.1 i.2.2.2.1 (F.X i.1).env) i.2.2.2.2.2
 K := F.K
 mg := F.mg
 base := F.base
 prog := F.prog
 w := F.w
 N := F.N
 sc := relS scope F.sc
 lv := F.lv
 T := F.T
 code := F.code
 hK := fun i => F.hK i.1
 hmg := fun i => F.hmg i.1
 hbase := fun i => F.hbase i.1
 hprog := fun i => F.hprog i.1
 hw := fun i => F.hw i.1
 hTw := F.hTw
 hN := fun i => F.hN i.1
 hsc := fun i => by
  show relS scope (F.X i.1).env.scope = _
  rw [F.hsc i.1]
 hr := fun i => F.hr i.1
 hcalm := fun i => F.hcalm i.1
 hcode := fun c h i => F.hcode c h i.1
 fn := false
 hfn := fun h => nomatch h
 hp := fun _ => PassesOwn.never
def wipeE (ρ : Env) : List Nat -> Env
 | [] => ρ
 | v :: vs => (wipeE ρ vs).set v none
def STs (F : Fam) (ifs : List Expr) (f : Ft) : Prop := ∃ tt, (∀ i, PTs (F.X i) ifs tt) /\ SemT F.K F.T tt f
def tYs : Ft := fun _ M => some (true, M)
section
variable {F : Fam} {e a b c o tg iter elt : Expr} {f fa fb fc fe : Fe} {pos p apos : Pos} {es ifs : List Expr} {scope : Scope} {own : List (Str × Nat)}
theorem sts_nil : STs F [] tYs := ⟨tYes, fun _ => pts_nil, fun σ H μ ρ M b M' Q h rσ rs q => by cases h; exact q μ H (Ext.refl _ _) rs⟩
theorem sts_one {t : Ft} (h : ST F c t) : STs F [c] t := by
 obtain ⟨tt, p, s⟩ := h
 exact ⟨tt, fun i => pts_one (p i), s⟩
theorem Rσ.wipe {K : PySem.W.Frag} {μ : List Addr} {H : Hp} {ρ : Env} {σ : L2.St} (r : Rσ K μ H ρ σ) : ∀ vs : List Nat, Rσ K μ H (wipeE ρ vs) (wipe σ vs)
 | [] => r
 | v :: vs => by
  have ih := Rσ.wipe r vs
  unfold wipeE L2.wipe
  refine ⟨by simp [ih.len], fun j x e => ?_⟩
  by_cases hj : v = j
  ·subst hj
   rw [List.getElem?_set] at e
   simp at e
  ·rw [List.getElem?_set_ne hj] at e
   rw [List.getElem?_set_ne hj]
   exact ih.at_ j x e
/-- the turns: k the new list's place, ρ the slots at each turn's start -/
def lcL (src : Src) (g : Fg) (t : Ft) (fe : Fe) (k : Nat) (ρ : Env) : Nat -> Nat -> Mem -> Option Mem
 | 0, i, M => match src M with
  | some xs => match xs[i]? with
   | none => some M
   | some _ => none
  | none => none
 | n + 1, i, M => match src M with
  | some xs => match xs[i]? with
   | none => some M
   | some x => match g x ρ M with
    | some (ρ1, M1) => match t ρ1 M1 with
     | some (true, M2) => match fe ρ1 M2 with
      | some (y, M3) => match M3[k]? with
       | some (.lst acc) => if acc.length < lim then lcL src g t fe k ρ n (i + 1) (M3.set k (.lst (acc ++ [y]))) else none
       | _ => none
      | none => none
     | some (false, M2) => lcL src g t fe k ρ n (i + 1) M2
     | none => none
    | none => none
  | none => none
def eLc (vs : List Nat) (fi : Fi) (g : Fg) (t : Ft) (fe : Fe) : Fe := fun ρ M => match fi ρ M with
 | some (src, n, M1) => match lcL src g t fe M1.length (wipeE ρ vs) n 0 (M1 ++ [.lst []]) with
  | some M2 => some (.ref M1.length, M2)
  | none => none
 | none => none
theorem semLc {fi : Fi} {fg : Fg} {t : Ft} {wi : TI} {g' : TG} {tt : TT} {te : TE} {vs : List Nat}
  (si : ∀ (σ : L2.St) (H : Hp) (μ : List Addr) (ρ : Env) (M : Mem) (src : Src) (n : Nat) (M' : Mem) (R : It -> Hp -> Prop), fi ρ M = some (src, n, M') -> Rσ F.K μ H ρ σ -> RS F.K F.T μ H M -> (∀ J μ' H', Ext μ H μ' H' -> RS F.K F.T μ' H' M' -> ItOk F.K F.T J src μ' H' -> R J H') -> wi σ H R)
  (sg : ∀ (σ : L2.St) (H : Hp) (μ : List Addr) (ρ : Env) (M : Mem) (v : Vl) (w : V) (ρ' : Env) (M' : Mem) (Q : L2.St -> Hp -> Prop), fg v ρ M = some (ρ', M') -> Rv F.K μ H v w -> Rσ F.K μ H ρ σ -> RS F.K F.T μ H M -> (∀ σ' μ' H', Ext μ H μ' H' -> Rσ F.K μ' H' ρ' σ' -> RS F.K F.T μ' H' M' -> Only vs σ σ' -> Q σ' H') -> g' w σ H Q)
  (st : SemT F.K F.T tt t) (se : SemE F.K F.T te fe) : SemE F.K F.T (tLc wi g' tt te vs) (eLc vs fi fg t fe) := by
 intro σ H μ ρ M v M' Q h rσ rs q
 unfold eLc at h
 split at h
 ·rename_i _ src n M1 h1
  split at h
  ·rename_i _ M2 h2
   cases h
   refine si σ H μ ρ M _ _ _ _ h1 rσ rs fun J μ1 H1 e1 s1 it => ?_
   intro D nD
   obtain ⟨s2, e2, r2⟩ := s1.alloc (u := .lst []) (o := .lst []) nD fun e => ⟨[], upd_same, .nil⟩
   have e12 := e1.trans e2
   have hk : (μ1 ++ [D])[M1.length]? = some D := by cases r2 with | ref h => exact h
   refine ⟨fun i m H' => ∃ μ' M3, Ext (μ1 ++ [D]) (upd H1 D (.lst [])) μ' H' /\ RS F.K F.T μ' H' M3 /\ lcL src fg t fe M1.length (wipeE ρ vs) m i M3 = some M', ⟨n, _, _, Ext.refl _ _, s2, h2⟩, ?_⟩
   rintro i m H3 ⟨μ3, M3, e3, s3, h3⟩
   have eI : Ext μ1 H1 μ3 H3 := e2.trans e3
   have rσ3 : Rσ F.K μ3 H3 (wipeE ρ vs) (wipe σ vs) := (rσ.ext (e12.trans e3)).wipe vs
   have stop : ∀ (xs : List Vl), src M3 = some xs -> xs[i]? = none -> some M3 = some M' -> J.stop i H3 /\ Q (.ref D) H3 := fun xs hx hn he => by
    cases he
    exact ⟨(it i μ3 H3 _ xs eI s3 hx).1 hn, q _ μ3 H3 (e12.trans e3) (.ref (e3.at hk)) s3⟩
   cases m with
   | zero =>
    unfold lcL at h3
    split at h3
    ·split at h3
     ·exact .inl (stop _ (by assumption) (by assumption) h3)
     ·cases h3
    ·cases h3
   | succ m =>
    unfold lcL at h3
    split at h3
    ·rename_i _ xs hx
     split at h3
     ·exact .inl (stop _ (by assumption) (by assumption) h3)
     ·rename_i _ x hxi
      obtain ⟨go, yl⟩ := (it i μ3 H3 M3 xs eI s3 hx).2 x hxi
      refine .inr ⟨go, fun H' => ∃ μ' M4, Ext (μ1 ++ [D]) (upd H1 D (.lst [])) μ' H' /\ RS F.K F.T μ' H' M4 /\ lcL src fg t fe M1.length (wipeE ρ vs) m (i + 1) M4 = some M', fun H' hN => ⟨m, Nat.lt_succ_self _, hN⟩, fun w H4 hy => ?_⟩
      obtain ⟨e4, r4, s4⟩ := yl w H4 hy
      split at h3
      ·refine sg (wipe σ vs) H4 μ3 _ M3 x w _ _ _ (by assumption) r4 (rσ3.ext e4) s4 fun σ5 μ5 H5 e5 r5 s5 o5 => ⟨o5.wipe, ?_⟩
       have e35 := (e3.trans e4).trans e5
       split at h3
       ·refine st σ5 H5 μ5 _ _ _ _ _ (by assumption) r5 s5 fun μ6 H6 e6 s6 => ?_
        show (if true = true then _ else _)
        rw [if_pos rfl]
        split at h3
        ·refine se σ5 H6 μ6 _ _ _ _ _ (by assumption) (r5.ext e6) s6 fun w7 μ7 H7 e7 r7 s7 => ?_
         have e37 := (e35.trans e6).trans e7
         split at h3
         ·split at h3
          ·rename_i acc hacc hl
           obtain ⟨ws, e8, r8⟩ := s7.lst hacc (e37.at hk)
           refine ⟨ws, e8, by rw [<- r8.length]; exact Nat.lt_of_lt_of_le hl lim_line, ?_⟩
           obtain ⟨s9, e9⟩ := s7.write (u := .lst (ws ++ [w7])) (o' := .lst (acc ++ [_])) hacc rfl (e37.at hk) noSt_lst rfl fun e => ⟨_, upd_same, (r8.append (.cons r7 .nil)).ext e⟩
           exact ⟨μ7, _, e37.trans e9, s9, h3⟩
          ·cases h3
         ·cases h3
        ·cases h3
       ·refine st σ5 H5 μ5 _ _ _ _ _ (by assumption) r5 s5 fun μ6 H6 e6 s6 => ?_
        show (if false = true then _ else _)
        rw [if_neg (by simp)]
        exact ⟨μ6, _, e35.trans e6, s6, h3⟩
       ·cases h3
      ·cases h3
    ·cases h3
  ·cases h
 ·cases h
theorem se_lc {fi : Fi} {fg : Fg} {t : Ft} {N0 : List Str} {sc0 : Scope} (hN : F.N.Nodup) (hN0 : F.N = N0) (hsc0 : F.sc = sc0) (hi : SI F tg iter fi) (ok : blkC N0 sc0 scope own = true) (hg : SG (F.blk scope) tg fg (own.map (·.2))) (ht : STs (F.blk scope) ifs t) (he : SE (F.blk scope) elt fe) (hs : ∀ env x, foldedSetIterable iter env x = pure x := by intro _ _; rfl) :
  SE F (.ListComp elt [⟨tg, iter, ifs, 0⟩] scope pos) (eLc (own.map (·.2)) fi fg t fe) := by
 obtain ⟨wi, pi, si⟩ := hi
 obtain ⟨g', pg, sg⟩ := hg
 obtain ⟨tt, pt, st⟩ := ht
 obtain ⟨te, pe, se⟩ := he
 exact ⟨_, fun i => pe_lc (F.hcalm i) (by rw [F.hN i]; exact hN) (pi i) (by rw [F.hN i, F.hsc i, hN0, hsc0]; exact blkOk_by ok) (fun s H C cl fp => pg (i, s, H, C, cl, fp)) (fun s H C cl fp => pt (i, s, H, C, cl, fp)) (fun s H C cl fp => pe (i, s, H, C, cl, fp)) (hs _), semLc si sg st se⟩
theorem ss_setLc {y : Str} {i : Nat} {spos : Pos} {fi : Fi} {fg : Fg} {t : Ft} {N0 : List Str} {sc0 : Scope} (hN : F.N.Nodup) (hy : F.N[i]? = some y) (hyl : F.sc.names.lookup y = some .local) (hl : (p.line == pos.line) = true) (hany : (scope.names.any fun (n, k) => n == y && (k == .local || k == .cell)) = false) (hk : F.sc.kind = .function) (hN0 : F.N = N0) (hsc0 : F.sc = sc0)
  (hi : SI F tg iter fi) (ok : blkC N0 sc0 scope own = true) (hg : SG (F.blk scope) tg fg (own.map (·.2))) (ht : STs (F.blk scope) ifs t) (he : SE (F.blk scope) elt fe) (hs : ∀ env x, foldedSetIterable iter env x = pure x := by intro _ _; rfl) :
  SS F (.Assign [.Name y p] (.ListComp elt [⟨tg, iter, ifs, 0⟩] scope pos) spos) (sAsg (eLc (own.map (·.2)) fi fg t fe) (gN i)) := by
 obtain ⟨wi, pi, si⟩ := hi
 obtain ⟨g', pg, sg⟩ := hg
 obtain ⟨tt, pt, st⟩ := ht
 obtain ⟨te, pe, se⟩ := he
 refine ⟨_, fun j => ps_setLc (F.hcalm j) (by rw [F.hN j]; exact hN) (by rw [F.hN j]; exact hy) (by rw [F.hsc j]; exact hyl) (sw_true (by rw [F.hsc j]; exact hk) (by rw [F.hsc j]; exact hyl) hl hany) (pi j) (by rw [F.hN j, F.hsc j, hN0, hsc0]; exact blkOk_by ok) (fun s H C cl fp => pg (j, s, H, C, cl, fp)) (fun s H C cl fp => pt (j, s, H, C, cl, fp)) (fun s H C cl fp => pe (j, s, H, C, cl, fp)) (hs _),
  semAsg (ks := [i]) (semLc si sg st se) fun σ H μ ρ M v w ρ' M' Q h rv rσ rs q => ?_⟩
 cases h
 exact q _ μ H (Ext.refl _ _) (rσ.set rv) rs only_set
end
def Fam.gen (F : Fam) (k : Nat) (scope : Scope) (N : List Str) : Fam where
 ι := F.ι × Shared × Hp × Addr × Value × List Addr × { A : Around // Room k A }
 X := fun i => gcx (F.X i.1) N i.2.1 i.2.2.1 (gEnv (F.X i.1) scope i.2.2.2.1 i.2.2.2.2.1) i.2.2.2.2.2.1 i.2.2.2.2.2.2.1
 K := F.K
 mg := F.mg
 base := F.base
 prog := F.prog
 w := F.w
 N := N
 sc := scope
 lv := k
 T := F.T
 code := none
 hK := fun i => F.hK i.1
 hmg := fun i => F.hmg i.1
 hbase := fun i => F.hbase i.1
 hprog := fun i => F.hprog i.1
 hw := fun i => F.hw i.1
 hTw := F.hTw
 hN := fun i => rfl
 hsc := fun i => rfl
 hr := fun i => i.2.2.2.2.2.2.2
 hcalm := fun i => rfl
 hcode := fun c h => nomatch h
 fn := false
 hfn := fun h => nomatch h
 hp := fun _ => PassesOwn.never
def slotE (ρ : Env) (j : Nat) : Option Vl := match ρ[j]? with
 | some o => o
 | none => none
def gen0 (n : Nat) (js : List Nat) (ρ : Env) : Env := List.replicate n none ++ js.map (slotE ρ)
/-- stop: where the test is b it is left with b -/
def allL (stop : Bool) (src : Src) (g : Fg) (t : Ft) (fe : Fe) : Nat -> Nat -> Env -> Mem -> Option (Bool × Mem)
 | 0, i, ρ, M => match src M with
  | some xs => match xs[i]? with
   | none => some (!stop, M)
   | some _ => none
  | none => none
 | n + 1, i, ρ, M => match src M with
  | some xs => match xs[i]? with
   | none => some (!stop, M)
   | some x => match g x ρ M with
    | some (ρ1, M1) => match t ρ1 M1 with
     | some (true, M2) => match fe ρ1 M2 with
      | some (.bl b, M3) => if b = stop then some (stop, M3) else allL stop src g t fe n (i + 1) ρ1 M3
      | _ => none
     | some (false, M2) => allL stop src g t fe n (i + 1) ρ1 M2
     | none => none
    | none => none
  | none => none
def eAllG (stop : Bool) (n : Nat) (js : List Nat) (fi : Fi) (g : Fg) (t : Ft) (fe : Fe) : Fe := fun ρ M => match fi ρ M with
 | some (src, m, M1) => match allL stop src g t fe m 0 (gen0 n js ρ) M1 with
  | some (b, M2) => some (.bl b, M2)
  | none => none
 | none => none
section
variable {F : Fam} {e a b o tg iter elt : Expr} {f fa fb fc fe : Fe} {pos p apos gpos : Pos} {es ifs : List Expr} {scope : Scope} {own fr : List Str} {js : List Nat} {k : Nat} {c P : Addr}
theorem Rσ.gen {K : PySem.W.Frag} {μ : List Addr} {H : Hp} {ρ : Env} {σ : L2.St} (r : Rσ K μ H ρ σ) (own : List Str) (js : List Nat) : Rσ K μ H (gen0 own.length js ρ) (sg0 own js σ) := by
 unfold gen0 sg0
 refine ⟨by simp, fun i v h => ?_⟩
 by_cases hi : i < own.length
 ·rw [List.getElem?_append_left (by simpa using hi), List.getElem?_replicate] at h
  rw [if_pos hi] at h
  cases h
 ·rw [List.getElem?_append_right (by simpa using hi), List.getElem?_map] at h
  rw [List.getElem?_append_right (by simpa using hi), List.getElem?_map]
  rw [List.length_replicate] at h
  rw [List.length_map]
  cases e : js[i - own.length]? with
  | none => rw [e] at h; cases h
  | some j =>
   rw [e] at h
   have h : slotE ρ j = some v := Option.some.inj h
   unfold slotE at h
   cases e2 : ρ[j]? with
   | none => rw [e2] at h; cases h
   | some x =>
    rw [e2] at h
    have h : x = some v := h
    subst h
    obtain ⟨w, h1, h2⟩ := r.at_ j v e2
    exact ⟨w, congrArg some (slotAt_of h1), h2⟩
theorem tab_grow {T : Tb} {H H' : Hp} (h : Tabs T H) (hP : P ∈ T) (t : Tabbed P H H') : Grow T H H' := by
 refine ⟨fun b o hb n => ?_, fun P' hP' => ?_⟩
 ·by_cases e : b = P
  ·subst e
   obtain ⟨ps, e1, _⟩ := h b hP
   rw [e1] at hb
   cases hb
   exact (n _ rfl).elim
  ·rw [t.2 b e]
   exact hb
 ·by_cases e : P' = P
  ·subst e
   exact t.1
  ·obtain ⟨ps, e1, e2⟩ := h P' hP'
   exact ⟨ps, by rw [t.2 P' e]; exact e1, e2⟩
theorem semAllG {fi : Fi} {fg : Fg} {ks : List Nat} {t : Ft} {wi : TI} {g' : TG} {tt : TT} {te : TE} (hP : P ∈ F.T) (stop : Bool)
  (si : ∀ (σ : L2.St) (H : Hp) (μ : List Addr) (ρ : Env) (M : Mem) (src : Src) (n : Nat) (M' : Mem) (R : It -> Hp -> Prop), fi ρ M = some (src, n, M') -> Rσ F.K μ H ρ σ -> RS F.K F.T μ H M -> (∀ J μ' H', Ext μ H μ' H' -> RS F.K F.T μ' H' M' -> ItOk F.K F.T J src μ' H' -> R J H') -> wi σ H R)
  (sg : ∀ (σ : L2.St) (H : Hp) (μ : List Addr) (ρ : Env) (M : Mem) (v : Vl) (w : V) (ρ' : Env) (M' : Mem) (Q : L2.St -> Hp -> Prop), fg v ρ M = some (ρ', M') -> Rv F.K μ H v w -> Rσ F.K μ H ρ σ -> RS F.K F.T μ H M -> (∀ σ' μ' H', Ext μ H μ' H' -> Rσ F.K μ' H' ρ' σ' -> RS F.K F.T μ' H' M' -> Only ks σ σ' -> Q σ' H') -> g' w σ H Q)
  (st : SemT F.K F.T tt t) (se : SemE F.K F.T te fe) :
  SemE F.K F.T (fun σ H Q => wi σ H fun J H1 => TabG H1 P /\ ∀ H2, Tabbed P H1 H2 -> Pack J g' tt te (sg0 own js σ) H2 (fun H => Q (.bl (!stop)) H) (fun x H C => ∃ b, x = .bl b /\ (b = (!stop) -> C H) /\ (b = stop -> Q (.bl stop) H))) (eAllG stop own.length js fi fg t fe) := by
 intro σ H μ ρ M v M' Q h rσ rs q
 unfold eAllG at h
 split at h
 ·rename_i _ src n M1 h1
  split at h
  ·rename_i _ bb M2 h2
   cases h
   refine si σ H μ ρ M _ _ _ _ h1 rσ rs fun J μ1 H1 e1 s1 it => ⟨s1.tab P hP, fun H2 hT => ?_⟩
   have gr := tab_grow s1.tab hP hT
   have e2 : Ext μ1 H1 μ1 H2 := gr.ext
   have s2 := s1.grow gr
   refine ⟨fun i m σ' H' => ∃ μ' ρ1 M3, Ext μ1 H2 μ' H' /\ Rσ F.K μ' H' ρ1 σ' /\ RS F.K F.T μ' H' M3 /\ allL stop src fg t fe m i ρ1 M3 = some (bb, M'), ⟨n, μ1, _, M1, Ext.refl _ _, (rσ.ext (e1.trans e2)).gen own js, s2, h2⟩, ?_⟩
   rintro i m σ3 H3 ⟨μ3, ρ3, M3, e3, r3, s3, h3⟩
   have eI : Ext μ1 H1 μ3 H3 := e2.trans e3
   have stp : ∀ (xs : List Vl), src M3 = some xs -> xs[i]? = none -> some (!stop, M3) = some (bb, M') -> J.stop i H3 /\ Q (.bl (!stop)) H3 := fun xs hx hn he => by
    cases he
    exact ⟨(it i μ3 H3 _ xs eI s3 hx).1 hn, q _ μ3 H3 (e1.trans eI) (.bl _) s3⟩
   cases m with
   | zero =>
    unfold allL at h3
    split at h3
    ·split at h3
     ·exact .inl (stp _ (by assumption) (by assumption) h3)
     ·cases h3
    ·cases h3
   | succ m =>
    unfold allL at h3
    split at h3
    ·rename_i _ xs hx
     split at h3
     ·exact .inl (stp _ (by assumption) (by assumption) h3)
     ·rename_i _ x hxi
      obtain ⟨go, yl⟩ := (it i μ3 H3 M3 xs eI s3 hx).2 x hxi
      refine .inr ⟨go, m, rfl, fun w H4 hy => ?_⟩
      obtain ⟨e4, r4, s4⟩ := yl w H4 hy
      split at h3
      ·refine sg σ3 H4 μ3 _ M3 x w _ _ _ (by assumption) r4 (r3.ext e4) s4 fun σ5 μ5 H5 e5 r5 s5 _ => ?_
       have e35 := (e3.trans e4).trans e5
       split at h3
       ·refine st σ5 H5 μ5 _ _ _ _ _ (by assumption) r5 s5 fun μ6 H6 e6 s6 => ?_
        show (if true = true then _ else _)
        rw [if_pos rfl]
        split at h3
        ·refine se σ5 H6 μ6 _ _ _ _ _ (by assumption) (r5.ext e6) s6 fun w7 μ7 H7 e7 r7 s7 => ?_
         have e37 := (e35.trans e6).trans e7
         cases r7
         refine ⟨_, rfl, fun hb => ?_, fun hb => ?_⟩
         ·rw [if_neg (by rw [hb]; cases stop <;> simp)] at h3
          exact ⟨m, Nat.le_refl _, μ7, _, _, e37, (r5.ext e6).ext e7, s7, h3⟩
         ·rw [if_pos hb] at h3
          cases h3
          exact q _ μ7 H7 ((e1.trans e2).trans e37) (.bl _) s7
        ·cases h3
       ·refine st σ5 H5 μ5 _ _ _ _ _ (by assumption) r5 s5 fun μ6 H6 e6 s6 => ?_
        show (if false = true then _ else _)
        rw [if_neg (by simp)]
        exact ⟨m, Nat.le_refl _, μ6, _, _, e35.trans e6, r5.ext e6, s6, h3⟩
       ·cases h3
      ·cases h3
    ·cases h3
  ·cases h
 ·cases h
theorem parts_of {fi : Fi} {fg : Fg} {ks : List Nat} {t : Ft} (hlv : F.lv = k + 1) (hcode : F.code = some (.ref c)) (TB : TabB F.base F.mg c P) (S : gscB F.N F.sc scope own fr js = true) {wi : TI} {g' : TG} {tt : TT} {te : TE}
  (pi : ∀ i, PI (F.X i) tg iter wi) (pg : ∀ i, PG ((F.gen k scope (own ++ fr)).X i) tg g') (pt : ∀ i, PTs ((F.gen k scope (own ++ fr)).X i) ifs tt) (pe : ∀ i, PE ((F.gen k scope (own ++ fr)).X i) elt te) (hs : ∀ env v, genFold iter env v = pure v) (i : F.ι) :
  Parts (F.X i) k own fr js scope elt tg iter ifs wi g' tt te c P :=
 ⟨hlv ▸ F.hr i, by rw [F.hbase i, F.hmg i]; exact TB, F.hcode _ hcode i, by rw [F.hN i, F.hsc i]; exact gsc_by S, pi i, fun s H C code fp A' hA => pg (i, s, H, C, code, fp, ⟨A', hA⟩), fun s H C code fp A' hA => pt (i, s, H, C, code, fp, ⟨A', hA⟩), fun s H C code fp A' hA => pe (i, s, H, C, code, fp, ⟨A', hA⟩), hs _⟩
/-- all(elt for tg in iter if ..) -/
theorem se_allG {fi : Fi} {fg : Fg} {ks : List Nat} {t : Ft} {N0 : List Str} {sc0 : Scope} (hN0 : F.N = N0) (hsc0 : F.sc = sc0) (hgl : Glb F "all") (hm : F.mg "all" = none) (hlv : F.lv = k + 1) (hcode : F.code = some (.ref c)) (TB : TabB F.base F.mg c P) (hP : P ∈ F.T) (S : gscB N0 sc0 scope own fr js = true) (hi : SI F tg iter fi) (hg : SG (F.gen k scope (own ++ fr)) tg fg ks) (ht : STs (F.gen k scope (own ++ fr)) ifs t)
  (he : SE (F.gen k scope (own ++ fr)) elt fe) (hs : ∀ env v, genFold iter env v = pure v := by intro _ _; rfl)
  (hst : ∀ env, starEach [.GeneratorExp elt [⟨tg, iter, ifs, 0⟩] scope gpos] env = (false, eval (.GeneratorExp elt [⟨tg, iter, ifs, 0⟩] scope gpos) env) :: starEach [] env := by intro _; rfl) :
  SE F (.Call (.Name "all" p) [.GeneratorExp elt [⟨tg, iter, ifs, 0⟩] scope gpos] [] pos) (eAllG false own.length js fi fg t fe) := by
 obtain ⟨wi, pi, si⟩ := hi
 obtain ⟨g', pg, sg⟩ := hg
 obtain ⟨tt, pt, st⟩ := ht
 obtain ⟨te, pe, se⟩ := he
 exact ⟨tAllG P own js wi g' tt te, fun i => pe_allG (hgl.gl i) (by rw [F.hmg i]; exact hm) (parts_of (fi := fi) (fg := fg) (ks := ks) (t := t) hlv hcode TB (hN0.symm ▸ hsc0.symm ▸ S) pi pg pt pe hs i) (hst _), semAllG (F := F) hP false si sg st se⟩
end
end Sh
namespace Sh
open PySem PySem.Spec PyProof.Rows L2 NdefX GenE
open GxR (TabB TabG Tabbed)
/-- the bodies of a def, wherever it is called -/
def famD (P : Program) (w : World) (K : PySem.W.Frag) (mg : Str -> Option Value) (base : Heap) (T : Tb) (hTw : T.w = w) (N : List Str) (qual : Str) (scope : Scope) (f : Addr) (cdv : Value) (k : Nat) : Fam where
 ι := { i : Around × List PySem.Env × Shared × Hp × XK // Room k (i.1.deeper (envOfC qual scope i.2.2.1.heap.objs.size f cdv)) }
 X := fun i => (cxOf CX0 P w K mg base N qual scope f cdv i.1.1 i.1.2.1 i.1.2.2.1 i.1.2.2.2.1 i.1.2.2.2.2).nox
 K := K
 mg := mg
 base := base
 prog := P
 w := w
 N := N
 sc := scope
 lv := k
 T := T
 code := some cdv
 hK := fun _ => rfl
 hmg := fun _ => rfl
 hbase := fun _ => rfl
 hprog := fun _ => rfl
 hw := fun _ => rfl
 hTw := hTw
 hN := fun _ => rfl
 hsc := fun _ => rfl
 hr := fun i => i.2
 hcalm := fun _ => rfl
 hcode := fun c h i => by cases h; rfl
 fn := true
 hfn := fun _ _ _ => rfl
 hp := fun _ => PassesOwn.never
def runD (n : Nat) (s : Fs) : Fd := fun xs M => match s (xs.map some ++ List.replicate (n - xs.length) none) M with
 | some (.rt v, _, M') => some (v, M')
 | some (.nx, _, M') => some (.non, M')
 | _ => none
section
variable {P : Program} {w : World} {K : PySem.W.Frag} {mg : Str -> Option Value} {base : Heap} {T : Tb}
theorem start_rel {μ : List Addr} {H : Hp} {N : List Str} {xs : List Vl} {vs : List V} (r : RvA K μ H xs vs) : Rσ K μ H (xs.map some ++ List.replicate (N.length - xs.length) none) (L2.start N vs) := by
 unfold L2.start
 refine ⟨by simp [r.length], fun i v h => ?_⟩
 by_cases hi : i < xs.length
 ·rw [List.getElem?_append_left (by simpa using hi), List.getElem?_map] at h
  rw [List.getElem?_append_left (by rw [List.length_map, <- r.length]; exact hi), List.getElem?_map]
  cases e : xs[i]? with
  | none => rw [e] at h; cases h
  | some x =>
   rw [e] at h
   cases h
   obtain ⟨w, h1, h2⟩ := r.get e
   exact ⟨w, by rw [h1]; rfl, h2⟩
 ·rw [List.getElem?_append_right (by simpa using hi), List.getElem?_replicate] at h
  split at h <;> cases h
theorem def_ok {x qual : Str} {st : Stmt} {f : Addr} {oc : Value} {od : Option Addr} {kV doc pm : Value} {an : Option Addr} {cdv ct : Value} {osl : Array (Option Value)} {N ps : List Str} {k : Nat} {s : Fs} (hTw : T.w = w)
  (lk : K.lookup f = some ⟨oc, od, .func (PySem.W.fnOf x qual (defArgs st) (defBody st) (defScope st) .none kV doc pm an cdv ct), osl⟩) (hcd : PySem.W.codeIn K cdv qual = true) (S : FnScope N ps (defScope st))
  (h : SSs (famD P w K mg base T hTw N qual (defScope st) f cdv k) (defBody st) s) :
  FnOk P w K mg base CX0 (k + 1) f (PySem.W.fnOf x qual (defArgs st) (defBody st) (defScope st) .none kV doc pm an cdv ct) ps (spM K T ps.length (runD N.length s)) := by
 obtain ⟨ts, p, sem⟩ := h
 refine fn_of lk hcd S (fun vs H Q E q => q.1) fun A outer s0 H vs Q E hr hsp => ?_
 obtain ⟨_, μ, M, xs, v, M', rv, rs, hm, q⟩ := hsp
 refine ⟨ts, (p ⟨(A, outer, s0, H, E), hr⟩).nox, ?_⟩
 unfold runD at hm
 split at hm
 ·cases hm
  exact sem _ H μ _ M (.rt _) _ _ _ (by assumption) (start_rel rv) rs fun w' μ' H' e r s => q w' μ' H' e r s
 ·cases hm
  exact sem _ H μ _ M .nx _ _ _ (by assumption) (start_rel rv) rs fun σ' μ' H' e r s => q .non μ' H' e .non s
 ·cases hm
theorem dd_of {x qual : Str} {st : Stmt} {f : Addr} {oc : Value} {od : Option Addr} {kV doc pm : Value} {an : Option Addr} {cdv ct : Value} {osl : Array (Option Value)} {N ps : List Str} {k : Nat} {s : Fs} (hTw : T.w = w)
  (lk : K.lookup f = some ⟨oc, od, .func (PySem.W.fnOf x qual (defArgs st) (defBody st) (defScope st) .none kV doc pm an cdv ct), osl⟩) (hcd : PySem.W.codeIn K cdv qual = true) (hk : PySem.W.keepIn K (.ref f) = true) (hg : mg x = some (.ref f)) (S : FnScope N ps (defScope st))
  (hb : ∀ kV doc pm an cd ct (us : List Value), us.length = ps.length -> bindArgs (PySem.W.fnOf x qual (defArgs st) (defBody st) (defScope st) .none kV doc pm an cd ct) ⟨us, []⟩ = pure (ps.zip us))
  (h : SSs (famD P w K mg base T hTw N qual (defScope st) f cdv k) (defBody st) s) : Dd P w K mg base T (k + 1) x ps.length (runD N.length s) :=
 ⟨f, _, ps, def_ok hTw lk hcd S h, hg, hk, (fun_mk (st := st) lk hcd hk).binds hb⟩
end
end Sh
namespace SetS
open PySem PySem.Spec PyProof.Rows L2
def stp (l : List Str) (v : Str) : List Str := if l.any (· == v) then l else l ++ [v]
def met (xs : List Str) : List Str := xs.foldl stp []
end SetS
namespace Sh
open PySem PySem.Spec PyProof.Rows L2 NdefX GenE
open GxR (TabB TabG Tabbed)
def rSortD (K : PySem.W.Frag) : List V -> Hp -> VK -> Prop := fun vs H Q => ∃ (a : Addr) (ws : List V) (ds : List PyData), vs = [.ref a] /\ SqL K H a ws /\ DpAll K H ws ds /\ PySem.W.AllAlike ds /\ PySem.W.Sortable ds /\ (∀ d ∈ ds, d.depth <= 64) /\
 ∀ p, H p = none -> Q (.ref p) (upd H p (.lst (((ws.zip ds).mergeSort (PySem.W.dataLe false Prod.snd)).map Prod.fst)))
theorem each_zip {h : Heap} : ∀ {ds : List PyData} {ws : List V} {us : List Value} {as : List Addr}, Vals ws us -> PySem.ReadsAll h us ds as -> PySem.W.EachIs (fun v (b : V × PyData) => RelV b.1 v) us (ws.zip ds) /\ PySem.W.EachIs (fun v (b : V × PyData) => ∃ as, PySem.Reads h v b.2 as) us (ws.zip ds) /\ ws.length = ds.length := by
 intro ds
 induction ds with
 | nil =>
  intro ws us as r h
  cases h
  cases r
  exact ⟨.nil, .nil, rfl⟩
 | cons d ds ih =>
  intro ws us as r h
  cases h with
  | cons h1 h2 =>
   cases r with
   | cons r1 r2 =>
    obtain ⟨a, b, c⟩ := ih r2 h2
    exact ⟨.cons r1 a, .cons ⟨_, h1⟩ b, by rw [List.length_cons, List.length_cons, c]⟩
theorem each_vals : ∀ {us : List Value} {bs : List (V × PyData)}, PySem.W.EachIs (fun v (b : V × PyData) => RelV b.1 v) us bs -> Vals (bs.map Prod.fst) us
 | _, _, .nil => .nil
 | _, _, .cons a b => .cons a (each_vals b)
theorem zip_snd {ws : List V} {ds : List PyData} (h : ws.length = ds.length) : (ws.zip ds).map Prod.snd = ds := by
 rw [List.map_snd_zip (by omega)]
theorem cr_sortD {X : Cx} {k : Nat} (hr : Room k X.A) : CallR X (.builtin "sorted") (rSortD X.K) := by
 intro pins s σ H vs us Q I r h
 obtain ⟨a, ws, ds, e, hs, hd, al, so, dp, q⟩ := h
 subst e
 obtain ⟨its, rv, hl, hz⟩ := I.list hs
 obtain ⟨as, rd⟩ := Dp.readsAll I ds ws its hd rv
 obtain ⟨e1, e2, e3⟩ := each_zip rv rd
 obtain ⟨u, eu, rx⟩ := vals1 r
 subst eu
 cases rx
 have hl0 := rv.length
 have hlz : (ws.zip ds).length = ws.length := by rw [List.length_zip, e3]; simp
 refine PySem.W.sorted_data (enc := Prod.snd) hl.isList e1 e2 (by rw [zip_snd e3]; exact al) (by rw [zip_snd e3]; exact so) (by rw [hlz]; exact hz) (fun b hb => ?_) fun out ho eo => ?_
 ·have hb' : b.2 ∈ ds := by
   have := List.mem_map_of_mem (f := Prod.snd) hb
   rw [zip_snd e3] at this
   exact this
  have h1 := dp _ hb'
  have h2 := hr.un
  show X.A.units + 2 + b.2.depth < cLine
  omega
 ·obtain ⟨ep, he'⟩ := PyProof.Rows.sortedAll_at s.heap its (List.toArray out)
  have rv2 := each_vals eo
  refine ⟨.ref _, upd H (s.heap.objs.size + 1) (.lst (((ws.zip ds).mergeSort (PySem.W.dataLe false Prod.snd)).map Prod.fst)), I.laid (t' := s.toks) (fun _ _ => PyProof.Rows.sortedAll_old) (Nat.le_succ _) ⟨?_, out, ep, rv2, he'⟩, rfl, q _ (I.hok.fresh (Nat.le_succ _))⟩
  rw [List.length_map, List.length_mergeSort, hlz]
  exact hz
def alikeB (ds : List PyData) : Bool := ds.all fun d => ds.all fun d' => PySem.W.alike d d'
def isTupB : PyData -> Bool
 | .tuple (_ :: _) => true
 | _ => false
def isFlatB : PyData -> Bool
 | .none => false
 | .tuple _ => false
 | _ => true
theorem alike_of {ds : List PyData} (h : alikeB ds = true) : PySem.W.AllAlike ds := by
 unfold alikeB at h
 rw [List.all_eq_true] at h
 exact fun d hd d' hd' => List.all_eq_true.mp (h d hd) d' hd'
theorem sortable_of {ds : List PyData} (h : (ds.all isTupB || ds.all isFlatB) = true) : PySem.W.Sortable ds := by
 rw [Bool.or_eq_true, List.all_eq_true, List.all_eq_true] at h
 rcases h with h | h
 ·refine .inl fun d hd => ?_
  have q := h d hd
  cases d with
  | tuple xs =>
   cases xs with
   | nil => cases q
   | cons x r => exact ⟨x, r, rfl⟩
  | _ => cases q
 ·refine .inr fun d hd => ⟨fun z => ?_, fun xs z => ?_⟩
  ·have q := h d hd; rw [z] at q; cases q
  ·have q := h d hd; rw [z] at q; cases q
/-- the items of xs, sorted by the data ds that they are -/
def srt {α : Type} (xs : List α) (ds : List PyData) : List α := ((xs.zip ds).mergeSort (PySem.W.dataLe false Prod.snd)).map Prod.fst
def vSorted : Vl -> Mem -> Option (Vl × Mem)
 | .ref k, M => match seqAt M k with
  | some xs => match mapO (toD 20 M) xs with
   | some ds => if alikeB ds = true /\ (ds.all isTupB || ds.all isFlatB) = true then some (.ref M.length, M ++ [.lst (srt xs ds)]) else none
   | none => none
  | none => none
 | _, _ => none
theorem each_zips {K : PySem.W.Frag} {μ : List Addr} {H : Hp} : ∀ {xs : List Vl} {ws : List V} (ds : List PyData), RvA K μ H xs ws -> PySem.W.EachIs (fun (x : Vl × PyData) (w : V × PyData) => Rv K μ H x.1 w.1 /\ x.2 = w.2) (xs.zip ds) (ws.zip ds)
 | _, _, _, .nil => by simp; exact .nil
 | _, _, [], .cons _ _ => .nil
 | _, _, d :: ds, .cons a b => .cons ⟨a, rfl⟩ (each_zips ds b)
theorem each_fst {K : PySem.W.Frag} {μ : List Addr} {H : Hp} : ∀ {xs : List (Vl × PyData)} {ws : List (V × PyData)}, PySem.W.EachIs (fun (x : Vl × PyData) (w : V × PyData) => Rv K μ H x.1 w.1 /\ x.2 = w.2) xs ws -> RvA K μ H (xs.map Prod.fst) (ws.map Prod.fst)
 | _, _, .nil => .nil
 | _, _, .cons a b => .cons a.1 (each_fst b)
theorem zip_same {K : PySem.W.Frag} {μ : List Addr} {H : Hp} {xs : List (Vl × PyData)} {ws : List (V × PyData)} (h : PySem.W.EachIs (fun (x : Vl × PyData) (w : V × PyData) => Rv K μ H x.1 w.1 /\ x.2 = w.2) xs ws) : ∀ p ∈ xs.zip ws, p.1.2 = p.2.2 := by
 induction h with
 | nil => intro p hp; simp at hp
 | cons a b ih =>
  intro p hp
  rw [List.zip_cons_cons] at hp
  rcases List.mem_cons.mp hp with rfl | hp
  ·exact a.2
  ·exact ih p hp
theorem rvA_srt {K : PySem.W.Frag} {μ : List Addr} {H : Hp} {xs : List Vl} {ws : List V} (r : RvA K μ H xs ws) (ds : List PyData) : RvA K μ H (srt xs ds) (srt ws ds) := by
 have z := each_zips ds r
 refine each_fst (PySem.W.sort_each z fun p hp q hq => ?_)
 show PySem.W.dataLe false Prod.snd p.1 q.1 = PySem.W.dataLe false Prod.snd p.2 q.2
 unfold PySem.W.dataLe PySem.W.sortLe
 simp only [zip_same z p hp, zip_same z q hq]
section
variable {F : Fam} {e a b c o : Expr} {f fa fb fc : Fe} {pos p apos : Pos} {es : List Expr} {g : Fa}
theorem depth_all {ds : List PyData} {n : Nat} (h : PyData.depthAll ds <= n) : ∀ d ∈ ds, d.depth <= n := by
 induction ds with
 | nil => intro d hd; cases hd
 | cons x xs ih =>
  unfold PyData.depthAll at h
  intro d hd
  rcases List.mem_cons.mp hd with rfl | hd
  ·omega
  ·exact ih (by omega) d hd
end
theorem RvA.reverse {K : PySem.W.Frag} {μ : List Addr} {H : Hp} {xs : List Vl} {ws : List V} (r : RvA K μ H xs ws) : RvA K μ H xs.reverse ws.reverse := by
 have q : ∀ {xs : List Vl} {ws : List V}, RvA K μ H xs ws -> RvA K μ H xs.reverse ws.reverse := by
  intro xs
  induction xs with
  | nil => intro ws r; cases r; exact .nil
  | cons x xs ih =>
   intro ws r
   cases r with
   | cons a b => rw [List.reverse_cons, List.reverse_cons]; exact (ih b).append (.cons a .nil)
 exact q r
def putL {κ : Type} [DecidableEq κ] (kvs : List (κ × Vl)) (k : κ) (v : Vl) : List (κ × Vl) := if (kvs.any fun kv => decide (kv.1 = k)) = true then kvs.map (fun kv => if kv.1 = k then (kv.1, v) else kv) else kvs ++ [(k, v)]
theorem Rk.put {κ : Type} [DecidableEq κ] {K : PySem.W.Frag} {μ : List Addr} {H : Hp} {a : List (κ × Vl)} {b : List (κ × V)} {k : κ} {v : Vl} {w : V} (r : Rk K μ H a b) (rv : Rv K μ H v w) : Rk K μ H (putL a k v) (putK b k w) := by
 have key : ∀ {a : List (κ × Vl)} {b : List (κ × V)}, a.map (·.1) = b.map (·.1) -> RvA K μ H (a.map (·.2)) (b.map (·.2)) -> (a.any fun kv => decide (kv.1 = k)) = (b.any fun kv => decide (kv.1 = k)) /\
   Rk K μ H (a.map (fun kv => if kv.1 = k then (kv.1, v) else kv)) (b.map (fun kv => if kv.1 = k then (kv.1, w) else kv)) := by
  intro a
  induction a with
  | nil =>
   intro b h1 h2
   cases b with
   | nil => exact ⟨rfl, rfl, .nil⟩
   | cons y ys => cases h1
  | cons x xs ih =>
   intro b h1 h2
   cases b with
   | nil => cases h1
   | cons y ys =>
    simp only [List.map_cons, List.cons.injEq] at h1
    cases h2 with
    | cons r1 r2 =>
     obtain ⟨a1, a2, a3⟩ := ih h1.2 r2
     obtain ⟨x1, x2⟩ := x
     obtain ⟨y1, y2⟩ := y
     have e : x1 = y1 := h1.1
     subst e
     refine ⟨by simp only [List.any_cons, a1], ?_⟩
     by_cases hx : x1 = k
     ·simp only [List.map_cons, hx, if_true]
      exact ⟨by simp only [List.map_cons, List.cons.injEq, true_and]; exact a2, .cons rv a3⟩
     ·simp only [List.map_cons, hx, if_false]
      exact ⟨by simp only [List.map_cons, List.cons.injEq, true_and]; exact a2, .cons r1 a3⟩
 obtain ⟨h1, h2⟩ := key r.1 r.2
 unfold putL putK
 rw [h1]
 split
 ·exact h2
 ·exact ⟨by simp [r.1], by simpa using r.2.append (.cons rv .nil)⟩
theorem fun_out {K : PySem.W.Frag} {x qual : Str} {params : Arguments} {body : List Stmt} {scope : Scope} {f : Addr} {fd : FuncData} (F : FunD K x qual params body scope [] [] f fd) :
  ∃ (oc : Value) (od : Option Addr) (kV doc pm : Value) (an : Option Addr) (c : Addr) (ct : Value) (osl : Array (Option Value)), fd = PySem.W.fnOf x qual params body scope .none kV doc pm an (.ref c) ct /\
   K.lookup f = some ⟨oc, od, .func (PySem.W.fnOf x qual params body scope .none kV doc pm an (.ref c) ct), osl⟩ /\ PySem.W.codeIn K (.ref c) qual = true /\ PySem.W.keepIn K (.ref f) = true := by
 obtain ⟨oc, od, dV, kV, doc, pm, an, cdv, ct, osl, e, lk, hcd, dv, _⟩ := F.ex
 have e2 : dV = .none := by
  rcases dv with ⟨_, z⟩ | ⟨z, _⟩
  ·exact z
  ·exact absurd rfl z
 subst e2
 obtain ⟨c, e3⟩ := He.codeIn_ref hcd
 subst e3
 subst e
 exact ⟨oc, od, kV, doc, pm, an, c, ct, osl, rfl, lk, hcd, F.kp⟩
theorem tabB {base : Heap} {mg : Str -> Option Value} {c P : Addr} (t : LamX.TabB base mg c P) : TabB base mg c P := ⟨t.code, t.bm, t.gP⟩
theorem ints_rel {K : PySem.W.Frag} {μ : List Addr} {H : Hp} : ∀ ns : List Int, RvA K μ H (ns.map Vl.int) (ns.map V.int)
 | [] => .nil
 | n :: ns => .cons (.int n) (ints_rel ns)
theorem law_start {K : PySem.W.Frag} {T : Tb} {m : Fd} {H : Hp} {a : Addr} {ns : List Int} (good : ∀ (o : Ob) (ns : List Int), o.seq = some (ns.map Vl.int) -> ns.length <= 63 -> (∀ z ∈ ns, Builtin.Int.intBits z <= 1048576) -> ∃ M, m [.ref 0] [o] = some (.bl true, M))
  (hl : ns.length <= 63) (hb : ∀ z ∈ ns, Builtin.Int.intBits z <= 1048576) (hT : ∀ P ∈ T, H P = some (.tbl #[])) (hS : SqL K H a (ns.map V.int)) : spM K T 1 m [.ref a] H (fun v _ => v = .bl true) fun _ _ _ => False := by
 have tabs : Tabs T H := fun P hP => ⟨#[], hT P hP, trivial⟩
 have key : ∀ o : Ob, o.seq = some (ns.map Vl.int) -> Ro K T [a] H a o -> spM K T 1 m [.ref a] H (fun v _ => v = .bl true) fun _ _ _ => False := fun o ho ro => by
  obtain ⟨M', hm⟩ := good o ns ho hl hb
  refine ⟨rfl, [a], [o], [.ref 0], .bl true, M', .cons (.ref rfl) .nil, ⟨⟨rfl, fun k o' b h1 h2 => ?_, fun j k b o1 o2 h1 h2 _ _ _ _ => ?_⟩, tabs⟩, hm, fun w μ' H' _ r _ => by cases r; rfl⟩
  ·cases k with
   | zero => cases h1; cases h2; exact ro
   | succ k => simp at h1
  ·cases j with
   | zero =>
    cases k with
    | zero => rfl
    | succ k => simp at h2
   | succ j => simp at h1
 rcases hS with (h | ⟨o, h⟩) | h
 ·exact key (.lst (ns.map Vl.int)) rfl ⟨_, h, ints_rel ns⟩
 ·exact key (.fro (ns.map Vl.int)) rfl ⟨_, .inl ⟨o, h⟩, ints_rel ns⟩
 ·exact key (.fro (ns.map Vl.int)) rfl ⟨_, .inr fun H' => .inr h, ints_rel ns⟩
end Sh
namespace Sh
open PySem PySem.Spec PyProof.Rows L2 NdefX GenE
open GxR (TabB TabG Tabbed)
section
variable {F : Fam} {e a b c o tg : Expr} {f fa fb fc : Fe} {pos p apos : Pos} {es : List Expr} {g : Fa}
def whileL (t : Ft) (body : Fs) : Nat -> Env -> Mem -> Option (Out × Env × Mem)
 | 0, _, _ => none
 | n + 1, ρ, M => match t ρ M with
  | some (true, M1) => match body ρ M1 with
   | some (.nx, ρ2, M2) => whileL t body n ρ2 M2
   | some (.ct, ρ2, M2) => whileL t body n ρ2 M2
   | some (.bk, ρ2, M2) => some (.nx, ρ2, M2)
   | some (.rt v, ρ2, M2) => some (.rt v, ρ2, M2)
   | none => none
  | some (false, M1) => some (.nx, ρ, M1)
  | none => none
def fuel : Nat := 1000000
def sWhile (t : Ft) (body : Fs) : Fs := fun ρ M => whileL t body fuel ρ M
theorem ss_while {t : Ft} {body : List Stmt} {s : Fs} (ht : ST F c t) (hb : SSs F body s) : SS F (.While c body [] pos) (sWhile t s) := by
 obtain ⟨tt, pt, st⟩ := ht
 obtain ⟨tb, pb, sb⟩ := hb
 refine ⟨_, fun i => ps_while (F.hp i) (pt i) (pb i), fun σ H μ ρ M o ρ' M' D h rσ rs q => ?_⟩
 unfold sWhile at h
 generalize fuel = n0 at h
 refine ⟨fun m σ' H' => ∃ μ' ρ1 M2, Ext μ H μ' H' /\ Rσ F.K μ' H' ρ1 σ' /\ RS F.K F.T μ' H' M2 /\ whileL t s m ρ1 M2 = some (o, ρ', M'), ⟨n0, μ, ρ, M, Ext.refl _ _, rσ, rs, h⟩, ?_⟩
 rintro m σ2 H2 ⟨μ2, ρ2, M2, e2, r2, s2, h2⟩
 cases m with
 | zero => cases h2
 | succ m =>
  unfold whileL at h2
  split at h2
  ·rename_i _ M3 h3
   refine st σ2 H2 μ2 ρ2 M2 true M3 _ h3 r2 s2 fun μ3 H3 e3 s3 => ?_
   rw [if_pos rfl]
   refine ⟨fun σ' H' => ∃ μ' ρ1 M2, Ext μ H μ' H' /\ Rσ F.K μ' H' ρ1 σ' /\ RS F.K F.T μ' H' M2 /\ whileL t s m ρ1 M2 = some (o, ρ', M'), fun σ' H' hN => ⟨m, Nat.lt_succ_self _, hN⟩, ?_⟩
   have e23 := e2.trans e3
   split at h2
   ·exact sb σ2 H3 μ3 _ _ .nx _ _ _ (by assumption) (r2.ext e3) s3 fun σ5 μ5 H5 e5 r5 s5 => ⟨μ5, _, _, e23.trans e5, r5, s5, h2⟩
   ·exact sb σ2 H3 μ3 _ _ .ct _ _ _ (by assumption) (r2.ext e3) s3 fun σ5 μ5 H5 e5 r5 s5 => ⟨μ5, _, _, e23.trans e5, r5, s5, h2⟩
   ·cases h2
    exact sb σ2 H3 μ3 _ _ .bk _ _ _ (by assumption) (r2.ext e3) s3 fun σ5 μ5 H5 e5 r5 s5 => q σ5 μ5 H5 (e23.trans e5) r5 s5
   ·cases h2
    exact sb σ2 H3 μ3 _ _ (.rt _) _ _ _ (by assumption) (r2.ext e3) s3 fun w5 μ5 H5 e5 r5 s5 => q w5 μ5 H5 (e23.trans e5) r5 s5
   ·cases h2
  ·rename_i _ M3 h3
   cases h2
   refine st σ2 H2 μ2 _ M2 false _ _ h3 r2 s2 fun μ3 H3 e3 s3 => ?_
   rw [if_neg Bool.false_ne_true]
   exact q σ2 μ3 H3 (e2.trans e3) (r2.ext e3) s3
  ·cases h2
def vMax : List Vl -> Mem -> Option (Vl × Mem)
 | [.int i, .int j], M => some (.int (if j > i then j else i), M)
 | _, _ => none
theorem RvA.two {K : PySem.W.Frag} {μ : List Addr} {H : Hp} {x y : Vl} {ws : List V} (r : RvA K μ H [x, y] ws) : ∃ w u, ws = [w, u] /\ Rv K μ H x w /\ Rv K μ H y u := by
 cases r with
 | cons a b =>
  obtain ⟨u, rfl, r⟩ := b.one
  exact ⟨_, u, rfl, a, r⟩
theorem se_max (hg : Glb F "max") (hm : F.mg "max" = none) (ha : SE F a fa) (hb : SE F b fb) (hs : ∀ env, starEach [a, b] env = (false, eval a env) :: starEach [b] env := by intro _; rfl) (hs2 : ∀ env, starEach [b] env = (false, eval b env) :: starEach [] env := by intro _; rfl) (hpl : ∀ env, (backTo pos (starEach [b] env)).any (·.1) = false := by intro _; rfl) :
  SE F (.Call (.Name "max" p) [a, b] [] pos) (eA vMax (aCons fa (aCons fb aNil))) := by
 refine se_blt (id := "max") (fun i => call_max2 (F.hcalm i)) ?_ hg hm (by decide +kernel) (sa_cons ha (sa_cons hb sa_nil hs2) hs) (he := hs) (hpl := hpl)
 intro H μ M xs ws v M' Q h r rs q
 unfold vMax at h
 split at h
 ·cases h
  obtain ⟨w, u, rfl, r1, r2⟩ := r.two
  cases r1
  cases r2
  exact ⟨_, _, rfl, q _ μ H (Ext.refl _ _) (.int _) rs⟩
 ·cases h
def vIs : Vl -> Vl -> Mem -> Option (Vl × Mem)
 | .bl x, .bl y, M => some (.bl (decide (x = y)), M)
 | .non, .non, M => some (.bl true, M)
 | .bl _, .non, M => some (.bl false, M)
 | .int _, .non, M => some (.bl false, M)
 | .str _, .non, M => some (.bl false, M)
 | .tup _ _, .non, M => some (.bl false, M)
 | .ref _, .non, M => some (.bl false, M)
 | _, _, _ => none
def vIsNot : Vl -> Vl -> Mem -> Option (Vl × Mem)
 | .bl x, .bl y, M => some (.bl (!decide (x = y)), M)
 | .non, .non, M => some (.bl false, M)
 | .bl _, .non, M => some (.bl true, M)
 | .int _, .non, M => some (.bl true, M)
 | .str _, .non, M => some (.bl true, M)
 | .tup _ _, .non, M => some (.bl true, M)
 | .ref _, .non, M => some (.bl true, M)
 | _, _, _ => none
theorem op2_is {F : Fam} : Op2 F (compareOp .Is) vIs := by
 refine ⟨_, fun i => (op_is_bl (X := F.X i)).or op_isN, ?_⟩
 intro H μ M x y wx wy v M' Q h rx ry rs q
 cases rx <;> cases ry <;> simp only [vIs] at h <;> try (cases h; done)
 ·cases h; exact .inr ⟨rfl, q _ μ H (Ext.refl _ _) (.bl _) rs⟩
 ·cases h; exact .inr ⟨rfl, q _ μ H (Ext.refl _ _) (.bl _) rs⟩
 ·cases h; exact .inl ⟨_, _, rfl, rfl, q _ μ H (Ext.refl _ _) (.bl _) rs⟩
 ·cases h; exact .inr ⟨rfl, q _ μ H (Ext.refl _ _) (.bl _) rs⟩
 ·cases h; exact .inr ⟨rfl, q _ μ H (Ext.refl _ _) (.bl _) rs⟩
 ·cases h; exact .inr ⟨rfl, q _ μ H (Ext.refl _ _) (.bl _) rs⟩
 ·cases h; exact .inr ⟨rfl, q _ μ H (Ext.refl _ _) (.bl _) rs⟩
theorem op2_isNot {F : Fam} : Op2 F (compareOp .IsNot) vIsNot := by
 refine ⟨_, fun i => (op_isnot_bl (X := F.X i)).or op_notN, ?_⟩
 intro H μ M x y wx wy v M' Q h rx ry rs q
 cases rx <;> cases ry <;> simp only [vIsNot] at h <;> try (cases h; done)
 ·cases h; exact .inr ⟨rfl, q _ μ H (Ext.refl _ _) (.bl _) rs⟩
 ·cases h; exact .inr ⟨rfl, q _ μ H (Ext.refl _ _) (.bl _) rs⟩
 ·cases h; exact .inl ⟨_, _, rfl, rfl, q _ μ H (Ext.refl _ _) (.bl _) rs⟩
 ·cases h; exact .inr ⟨rfl, q _ μ H (Ext.refl _ _) (.bl _) rs⟩
 ·cases h; exact .inr ⟨rfl, q _ μ H (Ext.refl _ _) (.bl _) rs⟩
 ·cases h; exact .inr ⟨rfl, q _ μ H (Ext.refl _ _) (.bl _) rs⟩
 ·cases h; exact .inr ⟨rfl, q _ μ H (Ext.refl _ _) (.bl _) rs⟩
def intsOf : List Vl -> Option (List Int)
 | [] => some []
 | .int i :: xs => (intsOf xs).map (i :: ·)
 | _ => none
theorem intsOf_rel {K : PySem.W.Frag} {μ : List Addr} {H : Hp} : ∀ {xs : List Vl} {ws : List V} {ns : List Int}, intsOf xs = some ns -> RvA K μ H xs ws -> ws = ns.map V.int
 | [], _, ns, h, r => by cases h; cases r; rfl
 | .int i :: xs, _, ns, h, r => by
  simp only [intsOf] at h
  rw [Option.map_eq_some_iff] at h
  obtain ⟨ms, h1, rfl⟩ := h
  cases r with
  | cons a b =>
   cases a
   rw [intsOf_rel h1 b]
   rfl
 | .non :: _, _, _, h, _ => by cases h
 | .bl _ :: _, _, _, h, _ => by cases h
 | .str _ :: _, _, _, h, _ => by cases h
 | .tup _ _ :: _, _, _, h, _ => by cases h
 | .ref _ :: _, _, _, h, _ => by cases h
def vLtX : Vl -> Vl -> Mem -> Option (Vl × Mem)
 | .tup _ xs, .tup _ ys, M => match intsOf xs, intsOf ys with
  | some ns, some ms => some (.bl (HT.lexLt ns ms), M)
  | _, _ => none
 | .int i, .int j, M => some (.bl (decide (i < j)), M)
 | .str a, .str b, M => some (.bl (decide (a.cps.toList < b.cps.toList)), M)
 | _, _, _ => none
theorem op2_ltX {F : Fam} : Op2 F (compareOp .Lt) vLtX := by
 refine ⟨_, fun i => (op_lt (X := F.X i)).or (op_lt_str.or (F.hK i ▸ op_ltT (X := F.X i) (Nat.lt_of_le_of_lt (Nat.le_add_right _ _) (hu_of (F.hr i))))), ?_⟩
 intro H μ M x y wx wy v M' Q h rx ry rs q
 cases rx <;> cases ry <;> simp only [vLtX] at h <;> try (cases h; done)
 ·cases h
  exact .inl ⟨_, _, rfl, rfl, q _ μ H (Ext.refl _ _) (.bl _) rs⟩
 ·cases h
  exact .inr (.inl ⟨_, _, rfl, rfl, q _ μ H (Ext.refl _ _) (.bl _) rs⟩)
 ·split at h
  ·cases h
   rename_i sa ra na _ _ _ _ sb rb nb _ _ ns ms h1 h2
   have e1 := intsOf_rel h1 ra
   have e2 := intsOf_rel h2 rb
   subst e1
   subst e2
   exact .inr (.inr ⟨_, _, _, _, rfl, rfl, sa, sb, q _ μ H (Ext.refl _ _) (.bl _) rs⟩)
  ·cases h
end
end Sh
namespace Sh
open PySem PySem.Spec PyProof.Rows L2 NdefX GenE
open GxR (TabB TabG Tabbed)
section
variable {K : PySem.W.Frag} {T : Tb} {μ : List Addr} {H : Hp} {M : Mem}
end
section
variable {F : Fam} {e a b c o : Expr} {f fa fb fc fd fk fv : Fe} {pos pos' p apos : Pos} {es : List Expr} {g : Fa}
theorem Rk.len {κ : Type} {K : PySem.W.Frag} {μ : List Addr} {H : Hp} {a : List (κ × Vl)} {b : List (κ × V)} (r : Rk K μ H a b) : a.length = b.length := by
 have := congrArg List.length r.1
 rwa [List.length_map, List.length_map] at this
theorem Rk.ext {κ : Type} {K : PySem.W.Frag} {μ μ' : List Addr} {H H' : Hp} {a : List (κ × Vl)} {b : List (κ × V)} (r : Rk K μ H a b) (e : Ext μ H μ' H') : Rk K μ' H' a b := ⟨r.1, r.2.ext e⟩
end
end Sh
namespace Sh
open PySem PySem.Spec PyProof.Rows L2 NdefX GenE
open GxR (TabB TabG Tabbed)
def vPopAt : Vl -> Vl -> Mem -> Option (Vl × Mem)
 | .ref k, .int i, M => match M[k]? with
  | some (.lst xs) => match seqIndex? i xs.length with
   | some j => match xs[j]? with
    | some y => if -(2 ^ 63) <= i /\ i < 2 ^ 63 then some (y, M.set k (.lst (xs.eraseIdx j))) else none
    | none => none
   | none => none
  | _ => none
 | _, _, _ => none
/-- a method of a list with one argument -/
def eM1 (op : Vl -> Vl -> Mem -> Option (Vl × Mem)) (fa f : Fe) : Fe := fun ρ M => match fa ρ M with
 | some (.ref k, M1) => match seqAt M1 k with
  | some _ => match f ρ M1 with
   | some (y, M2) => op (.ref k) y M2
   | none => none
  | none => none
 | _ => none
theorem RvA.erase {K : PySem.W.Frag} {μ : List Addr} {H : Hp} : ∀ {xs : List Vl} {ws : List V} (j : Nat), RvA K μ H xs ws -> RvA K μ H (xs.eraseIdx j) (ws.eraseIdx j)
 | _, _, _, .nil => .nil
 | _, _, 0, .cons _ b => b
 | _, _, j + 1, .cons a b => .cons a (RvA.erase j b)
section
variable {F : Fam} {e a b c o tg : Expr} {f fa fb fc : Fe} {pos p apos : Pos} {es : List Expr} {g : Fa}
theorem se_popAt (ho : SE F o fa) (he : SE F e f) (hs : ∀ env, starEach [e] env = (false, eval e env) :: starEach [] env := by intro _; rfl) (hbase : ∀ env, attributeBase o "pop" env (eval o env) = eval o env := by intro _; rfl)
  (hfew : ∀ env, ((backTo pos (starEach [e] env)).all (fun x => !x.1) && (backToKw pos (keywordEach [] env)).all (fun x => x.1.isSome) && decide (([e] : List Expr).length + ([] : List Keyword).length + (if ([] : List Keyword).isEmpty then 0 else 1) < 30)) = true := by intro _; rfl)
  (hline : (apos.endLine == pos.line) = true := by rfl) : SE F (.Call (.Attribute o "pop" apos) [e] [] pos) (eM1 vPopAt fa f) := by
 obtain ⟨to, po, so⟩ := ho
 obtain ⟨te, pe, se⟩ := he
 refine ⟨_, fun i => F.hK i ▸ pe_bm PySem.F.plainAttrs_list PySem.F.slot_list_pop PySem.F.type_list_pop mt_popAt (po i) (pa_cons (pe i) pa_nil (hs _)) (hbase _) (hfew _) hline (hs _) rfl, fun σ H μ ρ M v M' Q h rσ rs q => ?_⟩
 unfold eM1 at h
 split at h
 ·rename_i _ k M1 h1
  split at h
  ·rename_i _ xs0 h0
   split at h
   ·rename_i _ y M2 h2
    refine so σ H μ ρ M _ _ _ h1 rσ rs fun w1 μ1 H1 e1 r1 s1 => ?_
    cases r1
    rename_i a ha
    obtain ⟨o0, g1, g2⟩ := seqAt_some h0
    obtain ⟨ws0, sq0, _⟩ := s1.seq g1 g2 ha
    refine ⟨.inl ⟨rfl, ws0, sq0⟩, ?_⟩
    refine se σ H1 μ1 ρ M1 _ _ _ h2 (rσ.ext e1) s1 fun w2 μ2 H2 e2 r2 s2 => ?_
    cases r2 <;> simp only [vPopAt] at h <;> try (cases h; done)
    rename_i i
    split at h
    ·split at h
     ·split at h
      ·split at h
       ·cases h
        rename_i _ xs _ _ j _ _ hc hy
        have hk : M2[k]? = some (.lst xs) := by assumption
        have hj : seqIndex? i xs.length = some j := by assumption
        obtain ⟨ws, e3, r3⟩ := s2.lst hk (e2.at ha)
        obtain ⟨w, hw, rw'⟩ := r3.get hy
        refine ⟨a, ws, i, j, w, rfl, rfl, e3, hc.1, hc.2, by rw [<- r3.length]; exact hj, hw, ?_⟩
        obtain ⟨s4, e4⟩ := s2.write (u := .lst (ws.eraseIdx j)) (o' := .lst (xs.eraseIdx j)) hk rfl (e2.at ha) noSt_lst rfl fun e => ⟨_, upd_same, (r3.erase j).ext e⟩
        exact q _ μ2 _ ((e1.trans e2).trans e4) (rw'.ext e4) s4
       ·cases h
      ·cases h
     ·cases h
    ·cases h
   ·cases h
  ·cases h
 ·cases h
def rngC (lo c : Int) (n : Nat) : List Vl := (List.range n).map fun (k : Nat) => .int (lo + (k : Nat) * c)
theorem it_rangeC {K : PySem.W.Frag} {T : Tb} {lo c : Int} {n : Nat} {μ : List Addr} {H : Hp} : ItOk K T (Itc lo c n) (fun _ => some (rngC lo c n)) μ H := by
 intro i μ2 H2 M2 ys e2 s2 hy
 cases hy
 have hlen : (rngC lo c n).length = n := by unfold rngC; simp
 refine ⟨fun hn => ?_, fun x hx => ?_⟩
 ·have := List.getElem?_eq_none_iff.mp hn
  show n <= i
  omega
 ·have hi : i < n := by
   have := (List.getElem?_eq_some_iff.mp hx).1
   omega
  refine ⟨hi, fun w' H' hy => ?_⟩
  obtain ⟨rfl, rfl⟩ := hy
  refine ⟨Ext.refl _ _, ?_, s2⟩
  unfold rngC at hx
  rw [List.getElem?_map, List.getElem?_range hi] at hx
  cases hx
  exact .int _
def iRange3 (fa fb fc : Fe) : Fi := fun ρ M => match fa ρ M with
 | some (.int i, M1) => match fb ρ M1 with
  | some (.int j, M2) => match fc ρ M2 with
   | some (.int k, M3) => if k ≠ 0 /\ k.natAbs < 1073741824 /\ Builtin.Range.small i j k = true /\ Builtin.Range.rangeSize i j k = (Builtin.Range.rangeSize i j k).toNat then some (fun _ => some (rngC i k (Builtin.Range.rangeSize i j k).toNat), (Builtin.Range.rangeSize i j k).toNat, M3) else none
   | _ => none
  | _ => none
 | _ => none
theorem si_range3 (hg : Glb F "range") (hm : F.mg "range" = none) (ha : SE F a fa) (hb : SE F b fb) (hc : SE F c fc) (hs : ∀ env, starEach [a, b, c] env = (false, eval a env) :: starEach [b, c] env := by intro _; rfl) (hs2 : ∀ env, starEach [b, c] env = (false, eval b env) :: starEach [c] env := by intro _; rfl) (hs3 : ∀ env, starEach [c] env = (false, eval c env) :: starEach [] env := by intro _; rfl)
  (hpl : ∀ env, (backTo pos (starEach [b, c] env)).any (·.1) = false := by intro _; rfl) : SI F tg (.Call (.Name "range" p) [a, b, c] [] pos) (iRange3 fa fb fc) := by
 obtain ⟨ta, pa, sa⟩ := ha
 obtain ⟨tb, pb, sb⟩ := hb
 obtain ⟨tc, pc, sc⟩ := hc
 refine ⟨_, fun i => pi_range3 (hg.gl i) (by rw [F.hmg i]; exact hm) (pa_cons (pa i) (pa_cons (pb i) (pa_cons (pc i) pa_nil (hs3 _)) (hs2 _)) (hs _)) (hs _) (hpl _), fun σ H μ ρ M src n M' R h rσ rs q => ?_⟩
 unfold iRange3 at h
 split at h
 ·split at h
  ·split at h
   ·split at h
    ·rename_i hc
     cases h
     refine sa σ H μ ρ M _ _ _ (by assumption) rσ rs fun w1 μ1 H1 e1 r1 s1 => ?_
     refine sb σ H1 μ1 ρ _ _ _ _ (by assumption) (rσ.ext e1) s1 fun w2 μ2 H2 e2 r2 s2 => ?_
     refine sc σ H2 μ2 ρ _ _ _ _ (by assumption) ((rσ.ext e1).ext e2) s2 fun w3 μ3 H3 e3 r3 s3 => ?_
     cases r1
     cases r2
     cases r3
     exact ⟨_, _, _, _, rfl, ⟨hc.1, hc.2.1, hc.2.2.1, hc.2.2.2⟩, q _ μ3 H3 ((e1.trans e2).trans e3) s3 it_rangeC⟩
    ·cases h
   ·cases h
  ·cases h
 ·cases h
def vListRg : Vl -> Mem -> Option (Vl × Mem)
 | .int j, M => if 0 <= j /\ j <= 16777216 then some (.ref M.length, M ++ [.lst (rng 0 j.toNat)]) else none
 | _, _ => none
theorem rvA_rng {K : PySem.W.Frag} {μ : List Addr} {H : Hp} (j : Int) : RvA K μ H (rng 0 j.toNat) (rgV 0 j) := by
 unfold rng rgV
 rw [Int.sub_zero]
 have : ∀ l : List Nat, RvA K μ H (l.map fun (k : Nat) => Vl.int (0 + k)) (l.map fun i => V.int (0 + (i : Nat))) := by
  intro l
  induction l with
  | nil => exact .nil
  | cons x xs ih => exact .cons (.int _) ih
 exact this _
theorem se_listRg {p2 pos2 : Pos} (hg : Glb F "list") (hm : F.mg "list" = none) (hg2 : Glb F "range") (hm2 : F.mg "range" = none) (ha : SE F a fa) (hs : ∀ env, starEach [a] env = (false, eval a env) :: starEach [] env := by intro _; rfl)
  (hs2 : ∀ env, starEach [.Call (.Name "range" p2) [a] [] pos2] env = (false, eval (.Call (.Name "range" p2) [a] [] pos2) env) :: starEach [] env := by intro _; rfl) :
  SE F (.Call (.Name "list" p) [.Call (.Name "range" p2) [a] [] pos2] [] pos) (eA (v1 vListRg) (aCons fa aNil)) := by
 obtain ⟨ta, pa, sa⟩ := ha
 refine ⟨_, fun i => pe_listRg (F.hcalm i) (hg.gl i) (by rw [F.hmg i]; exact hm) (prg_1 (hg2.gl i) (by rw [F.hmg i]; exact hm2) (pa i) (hs _)) (hs2 _), fun σ H μ ρ M v M' Q h rσ rs q => ?_⟩
 unfold eA at h
 split at h
 ·rename_i _ vs M1 h1
  unfold aCons at h1
  split at h1
  ·rename_i _ v0 M0 h0
   simp only [aNil] at h1
   cases h1
   simp only [v1] at h
   refine sa σ H μ ρ M _ _ _ h0 rσ rs fun w1 μ1 H1 e1 r1 s1 => ?_
   cases r1 <;> simp only [vListRg] at h <;> try (cases h; done)
   split at h
   ·cases h
    rename_i j hj
    refine ⟨j, rfl, RgOk.of_le (by decide) hj.2 (by decide) hj.1, fun p np => ?_⟩
    obtain ⟨s4, e4, r4⟩ := s1.alloc (u := .lst (rgV 0 j)) (o := .lst (rng 0 j.toNat)) np fun e => ⟨_, upd_same, rvA_rng j⟩
    exact q _ _ _ (e1.trans e4) r4 s4
   ·cases h
  ·cases h1
 ·cases h
end
end Sh
namespace Sh
open PySem PySem.Spec PyProof.Rows L2 NdefX GenE
open GxR (TabB TabG Tabbed)
def addS (S : List Int) (i : Int) : List Int := if i ∈ S then S else S ++ [i]
end Sh
namespace Sh
open PySem PySem.Spec PyProof.Rows L2 NdefX GenE
open GxR (TabB TabG Tabbed)
section
variable {F : Fam} {e a b c o tg iter : Expr} {f fa fb fc : Fe} {pos p apos cpos : Pos} {es : List Expr} {g : Fa}
theorem sw_cell {elt : Expr} {gs : List Comprehension} {scope : Scope} {pos py : Pos} {y : Str} {l : Nat} {env : PySem.Env} (hy : env.scope.names.lookup y = some .cell) : swapsWith (.ListComp elt gs scope pos) (some (.Name y py)) l env = pure false := by
 have ky : env.kindOf y = some .cell := hy
 unfold swapsWith
 simp only [ky]
 have e : ((some NameKind.cell : Option NameKind) == some .local) = false := rfl
 simp only [e, Bool.and_false, Bool.false_and]
theorem ss_setC {x : Str} {elt : Expr} {gs : List Comprehension} {scope : Scope} {lp : Pos} (i : Nat) (hN : F.N.Nodup) (he : SE F (.ListComp elt gs scope lp) f) (hi : F.N[i]? = some x := by rfl) (hx : LocF F x := by first | exact Or.inl rfl | exact Or.inr ⟨rfl, rfl⟩) (hc : F.sc.names.lookup x = some .cell := by rfl) :
  SS F (.Assign [.Name x p] (.ListComp elt gs scope lp) pos) (sAsg f (gN i)) := by
 obtain ⟨te, pe, se⟩ := he
 refine ⟨_, fun j => ps_set (by rw [F.hN j]; exact hN) (by rw [F.hN j]; exact hi) (hx.loc j) (pe j) (sw_cell (by rw [F.hsc j]; exact hc)) (hx.fn j), semAsg (ks := [i]) se fun σ H μ ρ M v w ρ' M' Q h rv rσ rs q => ?_⟩
 cases h
 exact q _ μ H (Ext.refl _ _) (rσ.set rv) rs only_set
end
end Sh
namespace Sh
open PySem PySem.Spec PyProof.Rows L2 NdefX GenE
open GxR (TabB TabG Tabbed)
end Sh
namespace GenE
open PySem PySem.Spec PyProof.Rows L2
section
variable {P : Program} {w : World} {A : Around} {R : Result -> Shared -> Prop} {t : Shared} {kx vx a0 b0 a1 b1 : Expr} {c0 c1 : List Expr} {scope : Scope} {pos : Pos} {it acc : Value} {D : Addr} {env : Env}
abbrev nby (P : Program) (w : World) (A : Around) (env : Env) (R : Result -> Shared -> Prop) : Value -> Shared -> Prop := notedBy (model P w) A env fun e s' => R (.error e) s'
abbrev wA {α : Type} (P : Program) (w : World) (A : Around) (env : Env) (R : Result -> Shared -> Prop) (x : Sem α) (Q : α -> Shared -> Prop) (s : Shared) : Prop := wpAny (model P w) A x Q (nby P w A env R) s
end
end GenE
namespace GenE
open PySem PySem.Spec PyProof.Rows L2
section
variable {X : Cx} {bp : List (Addr × Obj)} {t : Shared} {τ : L2.St} {G : Hp} {QQ : VK} {o0 : HO} {kx vx a0 b0 a1 b1 : Expr} {c0 c1 : List Expr} {scope : Scope} {own : List (Str × Nat)} {vs1 : List Nat} {pos pos' : Pos} {wi wi1 : TI} {g g1 : TG} {tt tt1 : TT} {tk tv : TE} {use : Option (Value -> Sem Unit)} {Qf : Value -> Shared -> Prop}
/-- the context of the block -/
abbrev bk (X : Cx) (scope : Scope) (i : Shared × Hp × Addr × List (Str × Addr) × List Addr) : Cx := X.blk i.1 i.2.1 scope (compEnvC scope i.2.2.2.1 i.2.2.1 X.env) i.2.2.2.2
end
end GenE
namespace GenE
open PySem PySem.Spec PyProof.Rows L2
end GenE
namespace Sh
open PySem PySem.Spec PyProof.Rows L2 NdefX GenE
end Sh
namespace GenE
open PySem PySem.Spec PyProof.Rows L2
end GenE
namespace Sh
open PySem PySem.Spec PyProof.Rows L2 NdefX GenE
section
variable {F : Fam} {e a b c o tg iter elt kx vx tg1 iter1 : Expr} {f fa fb fc fe fk fv : Fe} {pos p apos : Pos} {es ifs ifs1 : List Expr} {scope : Scope} {own : List (Str × Nat)} {fi fi1 : Fi} {fg fg1 : Fg} {t t1 : Ft} {vs1 : List Nat} {N0 : List Str} {sc0 : Scope}
end
end Sh
namespace Sh
open PySem PySem.Spec PyProof.Rows L2 NdefX GenE
theorem SG.weak {F : Fam} {tg : Expr} {fg : Fg} {ks vs : List Nat} (h : SG F tg fg ks) (hs : ∀ i ∈ ks, i ∈ vs) : SG F tg fg vs := by
 obtain ⟨t, p, s⟩ := h
 exact ⟨t, p, fun σ H μ ρ M v w ρ' M' Q h rv rσ rs q => s σ H μ ρ M v w ρ' M' Q h rv rσ rs fun σ' μ' H' e r r' o => q σ' μ' H' e r r' ⟨o.1, fun j hj => o.2 j fun z => hj (hs j z)⟩⟩
end Sh
namespace Sh
open PySem PySem.Spec PyProof.Rows L2 NdefX GenE
end Sh
namespace GenE
open PySem PySem.Spec PyProof.Rows L2 NdefX
open GxR (TabB TabG Tabbed inv_tab sh_eta)
section
variable {X : Cx} {pins : List (Addr × Obj)} {σ : L2.St} {H : Hp} {s : Shared} {own fr : List Str} {js : List Nat} {scope : Scope} {elt tg iter : Expr} {ifs : List Expr} {gpos : Pos} {wi : TI} {g : TG} {tt : TT} {te : TE} {c P : Addr} {k : Nat}
theorem gen_make2 {Q' : Value -> Shared -> Prop} {R : It -> Hp -> Prop} (A2 : Around) (hA2 : A2.frames = X.A.frames) (hro : ∀ (cenv : Env) (itv : Value), Room k (A2.over (.compLoop (.GeneratorExp elt [⟨tg, iter, ifs, 0⟩] scope gpos) 0 itv .none cenv) [])) (pp : Parts X k own fr js scope elt tg iter ifs wi g tt te c P) (I : Inv X pins σ H s)
  (h : wi σ H fun J H1 => TabG H1 P /\ ∀ H2, Tabbed P H1 H2 -> R J H2)
  (hQ : ∀ (Xg : Cx) (a : Addr) (oa : Obj) (it : Addr) (fp : List Addr) (tn : Nat -> Heap -> Prop) (J : It) (gn : Nat) (gs : GenState) (H5 : Hp) (s5 : Shared), Xg.prog = X.prog -> Xg.w = X.w -> s5.heap.IsGen a gn -> (∀ h : Heap, h.get? a = some oa -> h.IsGen a gn) ->
   (∀ σ' H' s', Inv Xg [(a, oa)] σ' H' s' -> Inv X pins σ H' s') -> Turn X.prog X.w X.K tg J fp it tn -> Inv Xg [(a, oa)] (sg0 own js σ) H5 s5 -> tn 0 s5.heap -> (∀ b ∈ fp, H5 b = none /\ b < s5.heap.objs.size) -> R J H5 -> s5.gens[gn]? = some gs ->
   (∀ (D : Hp -> Prop) (Yl : V -> Hp -> (Hp -> Prop) -> Prop) (W : Nat -> Nat -> L2.St -> Hp -> Prop) (n : Nat) (s' : Shared), (∀ x H A B, (∀ H, A H -> B H) -> Yl x H A -> Yl x H B) -> Turns J g tt te D Yl W -> Sl Xg [(a, oa)] fp tn W n s' -> gs.Goes (model Xg.prog Xg.w) A2 (Rg Xg [(a, oa)] D) (Yg Xg [(a, oa)] fp tn W Yl) n (.send .none) s') -> Q' (.ref a) s5) :
  wpAny (model X.prog X.w) X.A (eval (.GeneratorExp elt [⟨tg, iter, ifs, 0⟩] scope gpos) X.env) Q' X.xe s := by
 obtain ⟨hr, TB, hcode, S, hi, hg, ht, he, hs⟩ := pp
 have hfree : ∀ y ∈ scope.names, y.2 = .free -> ∃ c, X.env.cells.lookup y.1 = some c := fun y hy e => (S.cap y.1 (S.free y hy e)).elim (fun z => I.ok.has _ (.inl z)) fun z => I.ok.has _ (.inr z)
 refine wpAny_GeneratorExp_make S.co (closure_ok hfree) S.cell S.dot S.kind (by have := hr.dp; omega) ?_ hs
 refine thn (hi.run pins s σ H _ I h) fun v s1 h1 => thn h1 fun itv s2 h2 => ?_
 obtain ⟨it, fp, tn, J, H2, rfl, I2, T, st2, f2, ⟨ps, hP, htr⟩, q⟩ := h2
 refine ⟨I2.nolimit, ?_⟩
 have hPs : s2.heap.get? P = some { cls := .none, data := .fields ps } := I2.hok P _ hP
 have cd : PySem.W.CodeHd s2.heap c P := TB.code.keeps I2.bk
 have cont : ∀ (code : Value) (s3 : Shared) (H3 : Hp), Inv X pins σ H3 s3 -> Tabbed P H2 H3 -> tn 0 s3.heap ->
   wpAny (model X.prog X.w) X.A (builtinsFor X.env.globals X.env.builtins) (fun bi s₄ =>
    ∀ h', h'.Ns s₄.heap.objs.size (fun y => if y = ".0" then some (.ref it) else none) -> Heap.SameBut s₄.heap.objs.size (s₄.heap.push { cls := .type "frame", data := .dict #[] }) h' ->
     Q' (.ref h'.objs.size) { s₄ with
      gens := s₄.gens.push (.fresh (.compStart (.GeneratorExp elt [⟨tg, iter, ifs, 0⟩] scope gpos) 0 (.ref it) .none (genEnv scope (cloFrom X.env.cells scope.names []) s₄.heap.objs.size code bi X.env))),
      toks := s₄.toks + 1 + 1 + 1,
      heap := h'.push { cls := .type "generator", data := .fields #[.int s₄.gens.size 0, .str "<genexpr>" (s₄.toks + 1), .str (X.env.qual ++ "<genexpr>") (s₄.toks + 1 + 1)] } }) X.xe s3 := by
  intro code s3 H3 I3 hT st3
  obtain ⟨bm, ob, e1, e2, e3, e4, e5, e6, e7, e8⟩ := TB.bm
  refine wpAny_builtinsFor (m := X.mg) (by rw [I3.ok.glob]; exact I3.mod.glob.keeps I3.bk) e1 e2 (I3.bk _ _ e5) e6 e7 e8 ?_
  intro h' hn' hs'
  have qR := q H3 hT
  have hsz : h'.objs.size = s3.heap.objs.size + 1 := by rw [hs'.1, Heap.size_push]
  have keep' : ∀ b o, s3.heap.get? b = some o -> h'.get? b = some o := fun b o e => hs'.extBut b o (Nat.ne_of_lt (Heap.lt_size e)) (Heap.get?_push_of_some _ e)
  have fn : ∀ b ∈ fp, H3 b = none := fun b hb => by
   rw [hT.2 b (fun z => by have q := (f2 b hb).1; rw [z, hP] at q; cases q)]
   exact (f2 b hb).1
  have hf3 : ∀ b ∈ fp, FpOk X pins H3 b /\ b < s3.heap.objs.size := fun b hb => ⟨⟨fn b hb, (f2 b hb).2⟩, by
   obtain ⟨o, e, _⟩ := T.obj _ _ st3 b hb
   exact Heap.lt_size e⟩
  have hfr : (A2.over (.compLoop (.GeneratorExp elt [⟨tg, iter, ifs, 0⟩] scope gpos) 0 (.ref it) .none (gEnv X scope s3.heap.objs.size code)) []).frames = some (gEnv X scope s3.heap.objs.size code :: X.stack) := by
   have e9 : A2.frames = some X.stack := hA2.trans I3.ok.frames
   simp only [Around.over, List.map_nil]
   rw [e9]
   rfl
  have hrA := hro (gEnv X scope s3.heap.objs.size code) (.ref it)
  have hgb : AllBare (s3.gens.push (.fresh (.compStart (.GeneratorExp elt [⟨tg, iter, ifs, 0⟩] scope gpos) 0 (.ref it) .none (gEnv X scope s3.heap.objs.size code)))) := I3.bare.push rfl
  have keep5 : ∀ b o, s3.heap.get? b = some o -> (h'.push { cls := .type "generator", data := .fields #[.int s3.gens.size 0, .str "<genexpr>" (s3.toks + 1), .str (X.env.qual ++ "<genexpr>") (s3.toks + 1 + 1)] }).get? b = some o := fun b o e => Heap.get?_push_of_some _ (keep' b o e)
  have I5 := inv_start (own := own) (fr := fr) (js := js) (code := code) (fp := fp) (tk := s3.toks + 1 + 1 + 1) I3 S hf3 (hn'.push { cls := .type "generator", data := .fields #[.int s3.gens.size 0, .str "<genexpr>" (s3.toks + 1), .str (X.env.qual ++ "<genexpr>") (s3.toks + 1 + 1)] }) keep5 hgb hrA.hd hfr
  have hget : (h'.push { cls := .type "generator", data := .fields #[.int s3.gens.size 0, .str "<genexpr>" (s3.toks + 1), .str (X.env.qual ++ "<genexpr>") (s3.toks + 1 + 1)] }).get? h'.objs.size = some ({ cls := .type "generator", data := .fields #[.int s3.gens.size 0, .str "<genexpr>" (s3.toks + 1), .str (X.env.qual ++ "<genexpr>") (s3.toks + 1 + 1)] } : Obj) := Heap.get?_push_size _ rfl
  have na : h'.objs.size ∉ frs X.stack := fun z => by
   obtain ⟨_, o, ho, _⟩ := I3.stack.mem z
   have := Heap.lt_size ho
   have h9 : (h'.objs.size : Nat) < s3.heap.objs.size := this
   omega
  have I6 := I5.pins_of (pins' := [(h'.objs.size, { cls := .type "generator", data := .fields #[.int s3.gens.size 0, .str "<genexpr>" (s3.toks + 1), .str (X.env.qual ++ "<genexpr>") (s3.toks + 1 + 1)] })]) (fun p hp => by
   rw [List.mem_singleton.mp hp]
   exact ⟨hget, I3.hok.fresh (by omega), by show h'.objs.size ≠ s3.heap.objs.size; omega, na, fun v z => by cases z⟩)
  have hog : ∀ h : Heap, h.get? h'.objs.size = some ({ cls := .type "generator", data := .fields #[.int s3.gens.size 0, .str "<genexpr>" (s3.toks + 1), .str (X.env.qual ++ "<genexpr>") (s3.toks + 1 + 1)] } : Obj) -> h.IsGen h'.objs.size s3.gens.size := fun h e => ⟨_, _, _, e, rfl, rfl, rfl⟩
  refine hQ (gcx X (own ++ fr) s3 H3 (gEnv X scope s3.heap.objs.size code) fp (A2.over (.compLoop (.GeneratorExp elt [⟨tg, iter, ifs, 0⟩] scope gpos) 0 (.ref it) .none (gEnv X scope s3.heap.objs.size code)) [])) h'.objs.size _ it fp tn J s3.gens.size _ H3 _ rfl rfl (hog _ hget) hog (fun σ' H' s' J' => ?_) T I6 (T.keep _ _ _ st3 fun b hb o e => keep5 b o e) (fun b hb => ⟨fn b hb, ?_⟩) qR (Array.getElem?_push_size ..) fun D Yl W n s' hYm turn hs' => ⟨rfl, ?_⟩
  ·exact I3.call' (ch := fp) J'.os J'.base J'.hok J'.bare fun b hb => ⟨(hf3 b hb).1.2.2.2.1, (hf3 b hb).1.2.1, (hf3 b hb).1.2.2.2.2.1, (hf3 b hb).1.2.2.2.2.2⟩
  ·have h9 : (b : Nat) < s3.heap.objs.size := (hf3 b hb).2
   show (b : Nat) < _
   rw [Heap.size_push, hsz]
   exact Nat.lt_succ_of_lt (Nat.lt_succ_of_lt h9)
  ·refine seg_start (X := gcx X (own ++ fr) s3 H3 (gEnv X scope s3.heap.objs.size code) fp (A2.over (.compLoop (.GeneratorExp elt [⟨tg, iter, ifs, 0⟩] scope gpos) 0 (.ref it) .none (gEnv X scope s3.heap.objs.size code)) [])) rfl rfl S.co (fun _ _ z => z) T (fun H' hn b hb => ⟨hn b hb, ?_, ?_, .inl hb, ?_, ?_⟩) (hg _ _ _ _ _ _ hrA) (ht _ _ _ _ _ _ hrA) (he _ _ _ _ _ _ hrA) hYm turn hs'
   ·exact (I5.ok.exf b hb).1
   ·exact I5.ok.exfs b hb
   ·exact (I5.ok.exf b hb).2
   ·intro p hp z
    have hp' : p = (h'.objs.size, _) := List.mem_singleton.mp hp
    rw [hp'] at z
    have h9 : (b : Nat) < s3.heap.objs.size := (hf3 b hb).2
    have z9 : h'.objs.size = b := z
    rw [<- z9, hsz] at h9
    exact Nat.lt_irrefl _ (Nat.lt_of_succ_lt h9)
 cases hf : codeAmong gpos ps.toList with
 | none =>
  refine wpAny_genexprCodeX hcode (cd.code hPs htr) (cd.tab hPs) hf fun c' h' tk hx hge hlt hco' _ htab' _ => ?_
  obtain ⟨o1, vs, f1, tf, fl, tg', inF, tx, tt', op, _, _, _, _, _, _, _, _, _, htr', _⟩ := hco'
  have J := inv_tab (more := #[rawInt gpos.line, rawInt gpos.col, .ref c']) (h' := h') (g' := s2.gens) (d' := s2.drawn) (t' := tk) I2 hP (fun b o hb e => hx b o hb e) htab'.2 I2.bare
  exact cont _ _ _ J ⟨⟨_, upd_same, htr'⟩, fun b hb => upd_ne hb⟩ (T.keep _ _ _ st2 fun b hb o e => hx b o (fun z => by have q := (f2 b hb).1; rw [z, hP] at q; cases q) e)
 | some cv =>
  exact wpAny_genexprCode_hit hcode (cd.code hPs htr) hf (cont cv s2 H2 I2 ⟨⟨ps, hP, htr⟩, fun b _ => rfl⟩ st2)
end
end GenE
namespace GenE
open PySem PySem.Spec PyProof.Rows L2 NdefX
open GxR (TabB TabG Tabbed inv_tab sh_eta)
/-- what is yielded is put at the end of the list at S -/
def yCol (S : Addr) : V -> Hp -> (Hp -> Prop) -> Prop := fun x H C => ∃ ws, H S = some (.lst ws) /\ ws.length < sizeLine /\ C (upd H S (.lst (ws ++ [x])))
theorem yCol_mono {S : Addr} : ∀ x H A B, (∀ H, A H -> B H) -> yCol S x H A -> yCol S x H B := fun x H A B k ⟨ws, e, l, h⟩ => ⟨ws, e, l, k _ h⟩
def dCol (S : Addr) (QD : Addr -> List V -> Hp -> Prop) : Hp -> Prop := fun H => ∃ ws, H S = some (.lst ws) /\ QD S ws H
def RCol (g : TG) (tt : TT) (te : TE) (σ0 : L2.St) (QD : Addr -> List V -> Hp -> Prop) : It -> Hp -> Prop := fun J H => ∀ S, H S = none -> Pack J g tt te σ0 (upd H S (.lst [])) (dCol S QD) (yCol S)
section
variable {X : Cx} {oa : Obj} {fp : List Addr} {tn : Nat -> Heap -> Prop} {D : Hp -> Prop} {W : Nat -> Nat -> L2.St -> Hp -> Prop} {A : Around} {a it : Addr} {gn : Nat} {tg : Expr} {J : It} {P0 : Program} {w0 : World} {K0 : PySem.W.Frag}
theorem col_loop {S : Addr} {res : Value} {R : Result -> Shared -> Prop} (T : Turn P0 w0 K0 tg J fp it tn) (hh : A.handled = none) (hroom : A.depth < recursionLimit) (hog : ∀ h : Heap, h.get? a = some oa -> h.IsGen a gn)
  (hR : ∀ σ H s', Inv X [(a, oa)] σ H s' -> D H -> R (.ok (.ret res)) s') :
  ∀ (n : Nat) (s : Shared), Ready X [(a, oa)] fp tn W (yCol S) D A.in1.in1 a gn n s -> codeAny (model X.prog X.w) A (.builtin "list.extend.loop" ⟨[.ref S, .ref a, res], []⟩) R s := by
 intro n
 induction n with
 | zero =>
  intro s hr
  refine codeAny_builtin F.entry_extend_loop ?_
  rw [Around.under_plainId F.plain_extend_loop _]
  show wpAny _ A.in1 (pyNext (.ref a) >>= _) _ _ s
  refine wpAny_bind (next_ready (A := A.in1) hh hroom hog hr (fun x v σ H i s' gs rx I t f y hgs hk => ?_) fun σ H s' I q => ?_)
  ·exfalso
   obtain ⟨ws, hS, hl, m, hm, w⟩ := y
   obtain ⟨z, its, n, r, hle, e⟩ := I.lstM hS
   have hSf : S ∉ fp := fun hb => by have := f S hb; rw [hS] at this; cases this
   have I' := I.lset (its' := its ++ [v]) (f := (·.push v)) (t' := s'.toks) hS e (by simp) (r.append (.cons rx .nil)) (by rw [List.length_append, List.length_singleton]; omega)
   exact hk _ ⟨i, m, σ, _, hm, I', T.keep _ _ _ t fun b hb o e => (Heap.get?_update_other _ _ (fun h : S = b => hSf (by rw [h]; exact hb))).trans e, fun b hb => by rw [upd_ne (fun h => hSf (by rw [<- h]; exact hb))]; exact f b hb, w⟩
  ·exact wpAny_pure (hR σ H _ I q)
 | succ n ih =>
  intro s hr
  refine codeAny_builtin F.entry_extend_loop ?_
  rw [Around.under_plainId F.plain_extend_loop _]
  show wpAny _ A.in1 (pyNext (.ref a) >>= _) _ _ s
  refine wpAny_bind (next_ready (A := A.in1) hh hroom hog hr (fun x v σ H i s' gs rx I t f y hgs hk => ?_) fun σ H s' I q => ?_)
  ·obtain ⟨ws, hS, hl, m, hm, w⟩ := y
   obtain ⟨z, its, c, r, hle, e⟩ := I.lstM hS
   have hSf : S ∉ fp := fun hb => by have := f S hb; rw [hS] at this; cases this
   show wpAny _ A.in1 (updateSeq S (·.push v) >>= _) _ _ _
   refine wpAny_bind (wpAny_updateSeq e rfl (wpAny_pure ⟨plainId_quiet F.plain_extend_loop _, ih _ ⟨⟨i, m, σ, _, hm, I.lset (its' := its ++ [v]) (f := (·.push v)) (t' := s'.toks) hS e (by simp) (r.append (.cons rx .nil)) (by rw [List.length_append, List.length_singleton]; omega), ?_, ?_, w⟩, gs, hgs, fun s'' hs => hk s'' hs⟩⟩) ?_ ?_)
   ·exact T.keep _ _ _ t fun b hb o e => (Heap.get?_update_other _ _ (fun h : S = b => hSf (by rw [h]; exact hb))).trans e
   ·exact fun b hb => by rw [upd_ne (fun h => hSf (by rw [<- h]; exact hb))]; exact f b hb
   ·rw [List.size_toArray]; omega
   ·rw [Array.size_push, List.size_toArray]; omega
  ·exact wpAny_pure (hR σ H _ I q)
/-- collect(g) -/
theorem collect_gen {Q : List Value -> Shared -> Prop} {E : Value -> Shared -> Prop} {g : TG} {tt : TT} {te : TE} {QD : Addr -> List V -> Hp -> Prop} {σ0 : L2.St} {H5 : Hp} {gs : GenState} {s : Shared} (T : Turn P0 w0 K0 tg J fp it tn) (hh : A.handled = none) (hroom : A.depth < recursionLimit) (hog : ∀ h : Heap, h.get? a = some oa -> h.IsGen a gn)
  (I : Inv X [(a, oa)] σ0 H5 s) (st : tn 0 s.heap) (hf : ∀ b ∈ fp, H5 b = none /\ b < s.heap.objs.size) (hp : RCol g tt te σ0 QD J H5) (hgs : s.gens[gn]? = some gs)
  (go : ∀ (D : Hp -> Prop) (Yl : V -> Hp -> (Hp -> Prop) -> Prop) (W : Nat -> Nat -> L2.St -> Hp -> Prop) (n : Nat) (s' : Shared), (∀ x H A B, (∀ H, A H -> B H) -> Yl x H A -> Yl x H B) -> Turns J g tt te D Yl W -> Sl X [(a, oa)] fp tn W n s' -> gs.Goes (model X.prog X.w) A.in1.in1 (Rg X [(a, oa)] D) (Yg X [(a, oa)] fp tn W Yl) n (.send .none) s')
  (hQ : ∀ σ' H' s' S ws its, Inv X [(a, oa)] σ' H' s' -> QD S ws H' -> Vals ws its -> ws.length <= sizeLine -> Q its s') : wpAny (model X.prog X.w) A (collect (.ref a)) Q E s := by
 have hga : s.heap.IsGen a gn := hog _ (I.pin (a, oa) (by simp)).1
 have hal : a < s.heap.objs.size := Heap.lt_size (I.pin (a, oa) (by simp)).1
 have hSI : s.heap.objs.size ≠ a := fun e => Nat.lt_irrefl _ (by rw [<- e] at hal; exact hal)
 have hTy : ∀ h : Heap, h.get? a = some oa -> Shared.TypeIs { s with heap := h } (.ref a) "generator" := fun h e => by
  obtain ⟨o, n1, n2, e1, e2, e3, e4⟩ := hog h e
  exact ⟨_, e1, e2⟩
 unfold collect
 refine wpAny_bind (wpAny_runValue (codeAny_builtin F.entry_proto_collect ?_))
 rw [Around.under_plainId F.plain_proto_collect _]
 show wpAny _ A.in1 (newList [] >>= fun l => again (.builtin "list.__iadd__" ⟨[l, .ref a], []⟩)) _ _ s
 refine wpAny_bind (wpAny_newObj_type ?_)
 refine wpAny_pure ⟨plainId_quiet F.plain_list_iadd _, codeAny_builtin F.entry_list_iadd ?_⟩
 rw [Around.under_plainId F.plain_list_iadd _]
 have ka : (s.heap.push { cls := .type "list", data := .seq ([] : List Value).toArray }).get? a = some oa := Heap.get?_push_of_some _ (I.pin (a, oa) (by simp)).1
 show wpAny _ A.in1 (Builtin.List.listExtendWith (.ref s.heap.objs.size) (.ref a) (.ref s.heap.objs.size)) _ _ _
 unfold Builtin.List.listExtendWith
 refine wpAny_bind (wpAny_typeOf (hTy _ ka) ?_)
 have h1 : Builtin.List.listSameRef (.ref s.heap.objs.size) (.ref a) = false := by simp [Builtin.List.listSameRef, hSI]
 have h2 : (Value.type "generator" == Value.type "list") = false := by decide
 have h3 : (Value.type "generator" == Value.type "tuple") = false := by decide
 simp only [h1, h2, h3, Bool.or_false, Bool.false_eq_true, if_false]
 refine wpAny_bind (wpAny_pyIter_gen (hog _ ka) ?_)
 refine wpAny_bind (wpAny_holding ?_)
 unfold Builtin.List.listLengthHint
 refine wpAny_bind (wpAny_specialOf (hTy _ ka) F.gen_no_len ?_)
 show wpAny _ A.in1 (specialOf (Value.ref a) (Str.ofString "__length_hint__") >>= _) _ _ _
 refine wpAny_bind (wpAny_specialOf (hTy _ ka) F.gen_no_hint ?_)
 refine wpAny_pure ?_
 show wpAny _ A.in1 (rule "list.extend.makes-room" >>= fun _ => Builtin.List.listTouch (.ref s.heap.objs.size) >>= fun _ =>
  again (.builtin "list.extend.loop" ⟨[.ref s.heap.objs.size, .ref a, .ref s.heap.objs.size], []⟩)) _ _ _
 refine wpAny_bind (wpAny_rule ?_)
 have hS1 : (s.heap.push { cls := .type "list", data := .seq ([] : List Value).toArray }).get? s.heap.objs.size = some { cls := .type "list", data := .seq ([] : List Value).toArray } := Heap.get?_push_size _ rfl
 refine wpAny_bind ?_
 show wpAny _ A.in1 (updateSeq s.heap.objs.size (·.push .none) >>= fun _ => updateSeq s.heap.objs.size (·.pop)) _ _ _
 refine wpAny_bind (wpAny_updateSeq hS1 rfl ?_)
 have hS2 := Heap.get?_update_self (Obj.mapSeq (·.push Value.none)) hS1 rfl
 refine wpAny_updateSeq hS2 rfl ?_
 have hS3 := Heap.get?_update_self (Obj.mapSeq (·.pop)) hS2 rfl
 have oth : ∀ b o, s.heap.get? b = some o -> (((s.heap.push { cls := .type "list", data := .seq ([] : List Value).toArray }).update s.heap.objs.size (Obj.mapSeq (·.push Value.none))).update s.heap.objs.size (Obj.mapSeq (·.pop))).get? b = some o :=
  fun b o e => (Heap.get?_update_other _ _ (Nat.ne_of_gt (Heap.lt_size e))).trans ((Heap.get?_update_other _ _ (Nat.ne_of_gt (Heap.lt_size e))).trans (Heap.get?_push_of_some _ e))
 have hSn : H5 s.heap.objs.size = none := I.hok.fresh (Nat.le_refl _)
 obtain ⟨W, ⟨m, w0⟩, turn⟩ := hp _ hSn
 have I6 := I.laid (t' := s.toks) (o := .lst []) oth (Nat.le_refl _) ⟨Nat.zero_le _, [], _, .nil, hS3⟩
 have sl : Sl X [(a, oa)] fp tn W m _ := ⟨0, m, σ0, _, Nat.le_refl _, I6, T.keep _ _ _ st fun b hb o e => oth b o e, fun b hb => by rw [upd_ne (Nat.ne_of_lt (hf b hb).2)]; exact (hf b hb).1, w0⟩
 refine wpAny_pure ⟨plainId_quiet F.plain_extend_loop _, ?_⟩
 refine codeAny_mono (col_loop (D := dCol s.heap.objs.size QD) (R := fun r s' => r = .ok (.ret (.ref s.heap.objs.size)) /\ ∃ σ' H' ws, Inv X [(a, oa)] σ' H' s' /\ H' s.heap.objs.size = some (.lst ws) /\ QD s.heap.objs.size ws H') T hh hroom hog (fun σ' H' s' I' ⟨ws, e1, e2⟩ => ⟨rfl, σ', H', ws, I', e1, e2⟩) m _ ⟨sl, gs, hgs, fun s' hs => go _ _ W m s' yCol_mono turn hs⟩) ?_
 rintro r s' ⟨rfl, σ', H', ws, I', e1, e2⟩
 obtain ⟨z, its, n, rr, hle, e⟩ := I'.lstM e1
 show wpAny _ A (load s.heap.objs.size >>= _) _ _ s'
 refine wpAny_bind (wpAny_load e ?_)
 refine wpAny_pure ?_
 rw [List.toList_toArray]
 exact hQ σ' H' s' _ ws its I' e2 rr z
end
end GenE
namespace GenE
open PySem PySem.Spec PyProof.Rows L2 NdefX
open GxR (TabB TabG Tabbed inv_tab sh_eta)
section
variable {X : Cx} {pins : List (Addr × Obj)} {σ : L2.St} {H : Hp} {s : Shared} {own fr : List Str} {js : List Nat} {scope : Scope} {elt tg iter : Expr} {ifs : List Expr} {gpos : Pos} {wi : TI} {g : TG} {tt : TT} {te : TE} {c P : Addr} {k : Nat}
theorem room_over4 {A : Around} {cenv : Env} {itv : Value} (hr : Room (k + 1) A) : Room k (A.in1.in1.in1.in1.over (.compLoop (.GeneratorExp elt [⟨tg, iter, ifs, 0⟩] scope gpos) 0 itv .none cenv) []) := by
 refine ⟨hr.hd, ?_, ?_⟩
 ·have := hr.dp
  show A.depth + 0 + 1 + 3 * k + 5 < _
  omega
 ·have := hr.un
  show A.units + 1 + 1 + 1 + 1 + 0 + 3 + 16 * k + 200 < _
  omega
def tColG (P : Addr) (own : List Str) (js : List Nat) (wi : TI) (g : TG) (tt : TT) (te : TE) (QD : VK -> Addr -> List V -> Hp -> Prop) : TE := fun σ H Q => wi σ H fun J H1 => TabG H1 P /\ ∀ H2, Tabbed P H1 H2 -> RCol g tt te (sg0 own js σ) (QD Q) J H2
/-- tuple(elt for ..) -/
def qTup : VK -> Addr -> List V -> Hp -> Prop := fun Q S ws H => ∀ p, H p = none -> Q (.ref p) (upd H p (.tup ws))
theorem code_tuple_gen {prog : Program} {w : World} {A : Around} {E : Value -> Shared -> Prop} {s : Shared} {a : Addr} {gn : Nat} {Q₁ : Value -> Shared -> Prop} {G : List Value -> Shared -> Prop} (hg : s.heap.IsGen a gn)
  (hc : ∀ {Q' : List Value -> Shared -> Prop} {E' : Value -> Shared -> Prop}, (∀ its s', G its s' -> Q' its s') -> wpAny (model prog w) A.in1 (collect (.ref a)) Q' E' s)
  (hG : ∀ its s', G its s' -> its.length <= sizeLine /\ Q₁ (.ref s'.heap.objs.size) { s' with heap := s'.heap.push { cls := .type "tuple", data := .seq its.toArray } }) :
  codeAny (model prog w) A (.call (.builtin "tuple.__new__") ⟨[.type "tuple", .ref a], []⟩) (wants Q₁ E) s := by
 refine codeAny_of_tree ?_
 show wpAny _ A.in1 (do checkBuiltinCall "tuple.__new__" ⟨[.type "tuple", .ref a], []⟩; again (.builtin "tuple.__new__" ⟨[.type "tuple", .ref a], []⟩)) _ _ s
 refine wpAny_bind (wpAny_of_eq (F.newCall_tuple_1 _) (wpAny_pure ⟨plainId_quiet F.plain_tuple_new _, codeAny_builtin F.entry_tuple_new ?_⟩))
 rw [Around.under_plainId F.plain_tuple_new _]
 have hsub := sub_tuple_self
 have hinit := init_tuple_lookup
 have hmh := madeHere_tuple
 have hTI : s.TypeIs (.ref a) "generator" := by
  obtain ⟨o, n1, n2, e1, e2, e3, e4⟩ := hg
  exact ⟨_, e1, e2⟩
 wp_walk using wpAny_typeOf hTI, hc
 intro its s' hGi
 obtain ⟨hl, hq⟩ := hG its s' hGi
 show wpAny _ _ (Builtin.Tuple.tupleExact its.toArray >>= fun v => ret v) _ _ _
 unfold Builtin.Tuple.tupleExact
 refine wpAny_bind (wpAny_newObj_type ?_ (by show its.toArray.size <= sizeLine; rw [List.size_toArray]; exact hl))
 refine wpAny_pure ?_
 exact hq
theorem pe_tupG {p pos : Pos} (hgl : Gl X "tuple") (hm : X.mg "tuple" = none) (pp : Parts X k own fr js scope elt tg iter ifs wi g tt te c P)
  (he : starEach [.GeneratorExp elt [⟨tg, iter, ifs, 0⟩] scope gpos] X.env = (false, eval (.GeneratorExp elt [⟨tg, iter, ifs, 0⟩] scope gpos) X.env) :: starEach [] X.env := by rfl) :
  PE X (.Call (.Name "tuple" p) [.GeneratorExp elt [⟨tg, iter, ifs, 0⟩] scope gpos] [] pos) (tColG P own js wi g tt te qTup) := by
 refine ⟨fun pins s σ H Q I h => ?_⟩
 refine Call_ (ld_blt I hgl hm boot_tuple (PyProof.Rows.callWith_type1 ?_ he))
 rw [he]
 show wpAny _ _ (spliced ((false, eval (.GeneratorExp elt [⟨tg, iter, ifs, 0⟩] scope gpos) X.env) :: backTo pos (starEach [] X.env))) _ _ s
 refine Calls.spliced_cons (gen_make2 (R := RCol g tt te (sg0 own js σ) (qTup Q)) X.A.in1.in1.in1.in1 rfl (fun cenv itv => room_over4 pp.hr) pp I h fun Xg a oa it fp tn J gn gs H5 s5 e1 e2 hga hog back T I5 st hf hR hgs go => ?_)
 refine Calls.spliced_nil ?_
 have hdp : X.A.depth < recursionLimit := by have := pp.hr.dp; omega
 refine callType_codes (Q₁ := fun obj s₁ => s₁.TypeIs obj "tuple" /\ EP X pins σ Q obj s₁) F.called_tuple (F.typeCall_tuple_1 _) F.entry_object_init
  (code_tuple_gen (A := X.A.in1) (G := fun its s' => ∃ σ' H' S ws, Inv Xg [(a, oa)] σ' H' s' /\ qTup Q S ws H' /\ Vals ws its /\ ws.length <= sizeLine) hga (fun {Q' E'} hq => ?_) fun its s' ⟨σ', H', S, ws, I', q', rv, hz⟩ => ⟨by rw [<- rv.length]; exact hz, ⟨_, Heap.get?_push_size _ rfl, rfl⟩, ?_⟩) fun obj s₁ h₁ => ?_
 ·have L := collect_gen (A := X.A.in1.in1) (Q := Q') (E := E') T pp.hr.hd hdp hog I5 st hf hR hgs go fun σ' H' s' S ws its I' q' rv hz => hq its s' ⟨σ', H', S, ws, I', q', rv, hz⟩
  rw [e1, e2] at L
  exact L
 ·have IX := back σ' H' s' I'
  exact ⟨.ref s'.heap.objs.size, upd H' s'.heap.objs.size (.tup ws), IX.laid (t' := s'.toks) (fun b o e => Heap.get?_push_of_some _ e) (Nat.le_refl _) (show ObjOk X.prog X.w _ _ _ (.tup ws) from ⟨hz, its, rv, IsTup.new _ _⟩), rfl, q' _ (IX.hok.fresh (Nat.le_refl _))⟩
 ·exact ⟨h₁.1, F.args_object_init_2 obj _, object_init_meets F.called_tuple.init.lookup F.called_tuple.made (by decide) X.prog X.w X.A.in1 _ s₁ ⟨h₁.1, rfl, h₁.2⟩⟩
mutual
theorem reads_lt {h : Heap} : ∀ {v : Value} {d : PyData} {as : List Addr}, Reads h v d as -> ∀ b ∈ as, b < h.objs.size
 | _, _, _, .none => fun b hb => by cases hb
 | _, _, _, .bool _ => fun b hb => by cases hb
 | _, _, _, .int _ _ => fun b hb => by cases hb
 | _, _, _, .str _ _ => fun b hb => by cases hb
 | _, _, _, .list h1 _ _ h4 => fun b hb => by
  rcases List.mem_cons.mp hb with rfl | hb
  ·exact Heap.lt_size h1
  ·exact readsAll_lt h4 b hb
 | _, _, _, .tuple _ _ _ h4 => fun b hb => readsAll_lt h4 b hb
 | _, _, _, .dict h1 _ _ h4 h5 => fun b hb => by
  rcases List.mem_append.mp hb with hb | hb
  ·rcases List.mem_cons.mp hb with rfl | hb
   ·exact Heap.lt_size h1
   ·exact readsAll_lt h4 b hb
  ·exact readsAll_lt h5 b hb
theorem readsAll_lt {h : Heap} : ∀ {vs : List Value} {ds : List PyData} {as : List Addr}, ReadsAll h vs ds as -> ∀ b ∈ as, b < h.objs.size
 | _, _, _, .nil => fun b hb => by cases hb
 | _, _, _, .cons h1 h2 => fun b hb => by
  rcases List.mem_append.mp hb with hb | hb
  ·exact reads_lt h1 b hb
  ·exact readsAll_lt h2 b hb
end
end
end GenE
namespace GenE
open PySem PySem.Spec PyProof.Rows L2 NdefX Sh
open GxR (TabB TabG Tabbed inv_tab sh_eta)
/-- what must be known of a row of things that is sorted, and what comes -/
def qSort (K : PySem.W.Frag) : VK -> Addr -> List V -> Hp -> Prop := fun Q S ws H => ∃ ds : List PyData, DpAll K H ws ds /\ PySem.W.AllAlike ds /\ PySem.W.Sortable ds /\ (∀ d ∈ ds, d.depth <= 64) /\ ∀ p, H p = none -> Q (.ref p) (upd H p (.lst (((ws.zip ds).mergeSort (PySem.W.dataLe false Prod.snd)).map Prod.fst)))
theorem each_as {h : Heap} : ∀ {us : List Value} {bs : List (V × PyData)}, PySem.W.EachIs (fun v (b : V × PyData) => ∃ as, PySem.Reads h v b.2 as) us bs -> PySem.W.EachIs (fun v (b : V × PyData) => ∃ as, PySem.Reads h v b.2 as /\ ∀ c ∈ as, c < h.objs.size) us bs
 | _, _, .nil => .nil
 | _, _, .cons ⟨as, a⟩ b => .cons ⟨as, a, fun c hc => reads_lt a c hc⟩ (each_as b)
/-- sorted(v), v anything that is collected -/
theorem sorted_col {X : Cx} {k : Nat} {pins : List (Addr × Obj)} {σ : L2.St} {s : Shared} {v : Value} {Q : VK} {G : List Value -> Shared -> Prop} (hr : Room k X.A)
  (hc : ∀ {Q' : List Value -> Shared -> Prop} {E' : Value -> Shared -> Prop}, (∀ its s', G its s' -> Q' its s') -> wpAny (model X.prog X.w) X.A.in1 (collect v) Q' E' s)
  (hG : ∀ its s', G its s' -> ∃ H' S ws, Inv X pins σ H' s' /\ qSort X.K Q S ws H' /\ Vals ws its /\ ws.length <= sizeLine) :
  wpAny (model X.prog X.w) X.A (call (.builtin "sorted") [v]) (EP X pins σ Q) X.xe s := by
 refine Calls.call_function_entry kind_sorted plain_sorted entry_sorted (args_sorted1 _) ?_
 unfold Builtin.«sorted»
 refine wpAny_bind (m := checkCount "sorted" 1 1 _) (wpAny_pure ?_)
 refine wpAny_bind (hc fun its s' hg => ?_)
 obtain ⟨H', S, ws, I, ⟨ds, hd, al, so, dp, q⟩, rv, hz⟩ := hG its s' hg
 obtain ⟨as, rd⟩ := Dp.readsAll I ds ws its hd rv
 obtain ⟨e1, e2, e3⟩ := each_zip rv rd
 have hl0 := rv.length
 have hlz : (ws.zip ds).length = ws.length := by rw [List.length_zip, e3]; simp
 refine wpAny_bind (wpAny_newList ?_ (by rw [<- hl0]; exact hz))
 have hL : (s'.heap.push { cls := .type "list", data := .seq its.toArray }).get? s'.heap.objs.size = some (seqObj "list" its.toArray 0) := Heap.get?_push_size _ rfl
 refine wpAny_bind (wpAny_holding ?_)
 refine PySem.W.list_sort_data (bs := ws.zip ds) (R := fun v (b : V × PyData) => RelV b.1 v) (enc := Prod.snd) hL e1 ((each_as e2).mono fun v b ⟨as, r, hlt⟩ => ⟨as, PyProof.Rows.Reads.keeps (fun b o e => Heap.get?_push_of_some _ e) r, fun hm => Nat.lt_irrefl _ (hlt _ hm)⟩) (by rw [zip_snd e3]; exact al) (by rw [zip_snd e3]; exact so) (by rw [hlz]; exact hz) (fun b hb => ?_) fun out ho eo => ?_
 ·have hb' : b.2 ∈ ds := by
   have := List.mem_map_of_mem (f := Prod.snd) hb
   rw [zip_snd e3] at this
   exact this
  have h1 := dp _ hb'
  have h2 := hr.un
  show X.A.units + 1 + 1 + b.2.depth < cLine
  omega
 ·obtain ⟨ep, he'⟩ := PyProof.Rows.sortedHeap_at (out := List.toArray out) hL
  have rv2 := each_vals eo
  refine wpAny_pure ⟨_, rfl, .ref s'.heap.objs.size, upd H' s'.heap.objs.size (.lst (((ws.zip ds).mergeSort (PySem.W.dataLe false Prod.snd)).map Prod.fst)), I.laid (t' := s'.toks) (fun b o e => ?_) (Nat.le_refl _) ⟨?_, out, ep, rv2, he'⟩, rfl, q _ (I.hok.fresh (Nat.le_refl _))⟩
  ·rw [PyProof.Rows.sortedHeap_old (Nat.ne_of_lt (Heap.lt_size e)) (by rw [Heap.size_push]; exact Nat.lt_succ_of_lt (Heap.lt_size e))]
   exact Heap.get?_push_of_some _ e
  ·rw [List.length_map, List.length_mergeSort, hlz]
   exact hz
/-- a tuple collected -/
theorem col_tup {prog : Program} {w : World} {A : Around} {E : Value -> Shared -> Prop} {s : Shared} {t : Addr} {us : List Value} {Q : List Value -> Shared -> Prop} (ht : IsTup s.heap t us.toArray) (hz : us.length <= sizeLine)
  (q : ∀ h' : Heap, (∀ b o, s.heap.get? b = some o -> h'.get? b = some o) -> Q us { s with heap := h' }) : wpAny (model prog w) A (collect (.ref t)) Q E s := by
 obtain ⟨ob, g1, g2, m, g3⟩ := ht
 have new : (s.heap.push (seqObj "list" #[] 0)).get? s.heap.objs.size = some (seqObj "list" #[] 0) := Heap.get?_push_size _ rfl
 unfold collect
 refine wpAny_bind (wpAny_runValue (codeAny_builtin F.entry_proto_collect ?_))
 show wpAny _ _ (newList [] >>= fun x => again (.builtin "list.__iadd__" ⟨[x, .ref t], []⟩)) _ _ s
 refine wpAny_bind (wpAny_newList (wpAny_pure ⟨plainId_quiet F.plain_list_iadd _, codeAny_builtin F.entry_list_iadd ?_⟩))
 show wpAny _ _ (Builtin.List.listExtendWith (.ref s.heap.objs.size) (.ref t) (.ref s.heap.objs.size)) _ _ { s with heap := s.heap.push (seqObj "list" #[] 0) }
 unfold Builtin.List.listExtendWith
 have g4 : (s.heap.push (seqObj "list" #[] 0)).get? t = some ob := Heap.get?_push_of_some _ g1
 refine wpAny_bind (wpAny_typeOf (T := "tuple") ⟨ob, g4, g2⟩ ?_)
 rw [if_pos (by rw [show (Value.type "tuple" == Value.type "tuple") = true from rfl]; simp)]
 refine wpAny_bind (listItems_at g4 g3 ?_)
 refine wpAny_bind (listItems_at new rfl ?_)
 rw [if_neg (by simp)]
 refine wpAny_bind (listUpdate_at new rfl ?_ (Nat.zero_le _) (by show (#[] ++ us.toArray).size <= sizeLine + 1; simp only [Array.size_append, List.size_toArray, List.length_nil]; omega))
 refine wpAny_pure ?_
 show wpAny (model prog w) A (load s.heap.objs.size >>= fun o => match o.data with
   | .seq xs _ => pure xs.toList
   | _ => unsupported "internal:collect") Q E { s with heap := (s.heap.push (seqObj "list" #[] 0)).update s.heap.objs.size (Obj.mapSeq (· ++ us.toArray)) }
 refine wpAny_bind (wpAny_load (get?_update_seq new _) ?_)
 have e : ((#[] : Array Value) ++ us.toArray).toList = us := by simp
 show wpAny _ _ (pure ((#[] : Array Value) ++ us.toArray).toList) Q E _
 rw [e]
 exact wpAny_pure (q _ fun b o h => (Heap.get?_update_other _ _ (Nat.ne_of_gt (Heap.lt_size h))).trans (Heap.get?_push_of_some _ h))
/-- sorted(t), t a tuple -/
def rSortT (K : PySem.W.Frag) : List V -> Hp -> VK -> Prop := fun vs H Q => ∃ (a : Addr) (ws : List V), vs = [.ref a] /\ SqT K H a ws /\ qSort K Q 0 ws H
theorem cr_sortT {X : Cx} {k : Nat} (hr : Room k X.A) : CallR X (.builtin "sorted") (rSortT X.K) := by
 intro pins s σ H vs us Q I r h
 obtain ⟨a, ws, e, hs, q⟩ := h
 subst e
 obtain ⟨u, eu, rx⟩ := vals1 r
 subst eu
 cases rx
 obtain ⟨its, rv, hl, hz⟩ := I.tuple hs
 refine sorted_col (G := fun i s' => i = its /\ Inv X pins σ H s') hr (fun {Q' E'} hq => ?_) fun i s' ⟨e1, I'⟩ => ⟨H, 0, ws, I', q, e1 ▸ rv, hz⟩
 exact col_tup hl (by rw [<- rv.length]; exact hz) fun h' hk => hq _ _ ⟨rfl, I.kept (t' := s.toks) hk⟩
end GenE
namespace GenE
open PySem PySem.Spec PyProof.Rows L2 NdefX
end GenE
namespace Sh
open PySem PySem.Spec PyProof.Rows L2 NdefX GenE
end Sh
namespace Sh
open PySem PySem.Spec PyProof.Rows L2 NdefX GenE
end Sh
namespace Sh
open PySem PySem.Spec PyProof.Rows L2 NdefX GenE
end Sh
namespace Sh
open PySem PySem.Spec PyProof.Rows L2 NdefX GenE
open GxR (TabB TabG Tabbed)
def colL (src : Src) (g : Fg) (t : Ft) (fe : Fe) (k : Nat) : Nat -> Nat -> Env -> Mem -> Option Mem
 | 0, i, ρ, M => match src M with
  | some xs => match xs[i]? with
   | none => some M
   | some _ => none
  | none => none
 | n + 1, i, ρ, M => match src M with
  | some xs => match xs[i]? with
   | none => some M
   | some x => match g x ρ M with
    | some (ρ1, M1) => match t ρ1 M1 with
     | some (true, M2) => match fe ρ1 M2 with
      | some (y, M3) => match M3[k]? with
       | some (.lst acc) => if acc.length < lim then colL src g t fe k n (i + 1) ρ1 (M3.set k (.lst (acc ++ [y]))) else none
       | _ => none
      | none => none
     | some (false, M2) => colL src g t fe k n (i + 1) ρ1 M2
     | none => none
    | none => none
  | none => none
def eColG (fin : Vl -> Mem -> Option (Vl × Mem)) (n : Nat) (js : List Nat) (fi : Fi) (g : Fg) (t : Ft) (fe : Fe) : Fe := fun ρ M => match fi ρ M with
 | some (src, m, M1) => match colL src g t fe M1.length m 0 (gen0 n js ρ) (M1 ++ [.lst []]) with
  | some M2 => fin (.ref M1.length) M2
  | none => none
 | none => none
section
variable {F : Fam} {e a b o tg iter elt : Expr} {f fa fb fc fe : Fe} {pos p apos gpos : Pos} {es ifs : List Expr} {scope : Scope} {own fr : List Str} {js : List Nat} {k : Nat} {c P : Addr}
/-- what comes of the collected list -/
def FinOk (F : Fam) (QD : VK -> Addr -> List V -> Hp -> Prop) (fin : Vl -> Mem -> Option (Vl × Mem)) : Prop := ∀ (k : Nat) (S : Addr) (μ : List Addr) (H : Hp) (M : Mem) (xs : List Vl) (ws : List V) (v : Vl) (M' : Mem) (Q : VK), fin (.ref k) M = some (v, M') -> M[k]? = some (.lst xs) -> μ[k]? = some S -> H S = some (.lst ws) -> RvA F.K μ H xs ws -> RS F.K F.T μ H M ->
 (∀ w μ' H', Ext μ H μ' H' -> Rv F.K μ' H' v w -> RS F.K F.T μ' H' M' -> Q w H') -> QD Q S ws H
theorem semColG {fi : Fi} {fg : Fg} {ks : List Nat} {t : Ft} {wi : TI} {g' : TG} {tt : TT} {te : TE} {QD : VK -> Addr -> List V -> Hp -> Prop} {fin : Vl -> Mem -> Option (Vl × Mem)} (hP : P ∈ F.T) (hfin : FinOk F QD fin)
  (hfk : ∀ k M v M', fin (.ref k) M = some (v, M') -> ∃ xs, M[k]? = some (.lst xs))
  (si : ∀ (σ : L2.St) (H : Hp) (μ : List Addr) (ρ : Env) (M : Mem) (src : Src) (n : Nat) (M' : Mem) (R : It -> Hp -> Prop), fi ρ M = some (src, n, M') -> Rσ F.K μ H ρ σ -> RS F.K F.T μ H M -> (∀ J μ' H', Ext μ H μ' H' -> RS F.K F.T μ' H' M' -> ItOk F.K F.T J src μ' H' -> R J H') -> wi σ H R)
  (sg : ∀ (σ : L2.St) (H : Hp) (μ : List Addr) (ρ : Env) (M : Mem) (v : Vl) (w : V) (ρ' : Env) (M' : Mem) (Q : L2.St -> Hp -> Prop), fg v ρ M = some (ρ', M') -> Rv F.K μ H v w -> Rσ F.K μ H ρ σ -> RS F.K F.T μ H M -> (∀ σ' μ' H', Ext μ H μ' H' -> Rσ F.K μ' H' ρ' σ' -> RS F.K F.T μ' H' M' -> Only ks σ σ' -> Q σ' H') -> g' w σ H Q)
  (st : SemT F.K F.T tt t) (se : SemE F.K F.T te fe) :
  SemE F.K F.T (tColG P own js wi g' tt te QD) (eColG fin own.length js fi fg t fe) := by
 intro σ H μ ρ M v M' Q h rσ rs q
 unfold eColG at h
 split at h
 ·rename_i _ src n M1 h1
  split at h
  ·rename_i _ M2 h2
   refine si σ H μ ρ M _ _ _ _ h1 rσ rs fun J μ1 H1 e1 s1 it => ⟨s1.tab P hP, fun H2 hT => ?_⟩
   have gr := tab_grow s1.tab hP hT
   have e2 : Ext μ1 H1 μ1 H2 := gr.ext
   have s2 := s1.grow gr
   intro D nD
   obtain ⟨s3, e3, r3⟩ := s2.alloc (u := .lst []) (o := .lst []) nD fun e => ⟨[], upd_same, .nil⟩
   have e13 := (e1.trans e2).trans e3
   have hk : (μ1 ++ [D])[M1.length]? = some D := by cases r3 with | ref h => exact h
   refine ⟨fun i m σ' H' => ∃ μ' ρ1 M3, Ext (μ1 ++ [D]) (upd H2 D (.lst [])) μ' H' /\ Rσ F.K μ' H' ρ1 σ' /\ RS F.K F.T μ' H' M3 /\ colL src fg t fe M1.length m i ρ1 M3 = some M2, ⟨n, _, _, _, Ext.refl _ _, (rσ.ext e13).gen own js, s3, h2⟩, ?_⟩
   rintro i m σ4 H4 ⟨μ4, ρ4, M4, e4, r4, s4, h4⟩
   have eI : Ext μ1 H1 μ4 H4 := (e2.trans e3).trans e4
   have stp : ∀ (xs : List Vl), src M4 = some xs -> xs[i]? = none -> some M4 = some M2 -> J.stop i H4 /\ dCol D (QD Q) H4 := fun xs hx hn he => by
    cases he
    refine ⟨(it i μ4 H4 _ xs eI s4 hx).1 hn, ?_⟩
    obtain ⟨ys, hys⟩ := hfk _ _ _ _ h
    obtain ⟨ws, g1, g2⟩ := s4.lst hys (e4.at hk)
    exact ⟨ws, g1, hfin _ _ μ4 H4 _ ys ws v M' Q h hys (e4.at hk) g1 g2 s4 fun w μ' H' e => q w μ' H' ((e13.trans e4).trans e)⟩
   cases m with
   | zero =>
    unfold colL at h4
    split at h4
    ·split at h4
     ·exact .inl (stp _ (by assumption) (by assumption) h4)
     ·cases h4
    ·cases h4
   | succ m =>
    unfold colL at h4
    split at h4
    ·rename_i _ xs hx
     split at h4
     ·exact .inl (stp _ (by assumption) (by assumption) h4)
     ·rename_i _ x hxi
      obtain ⟨go, yl⟩ := (it i μ4 H4 M4 xs eI s4 hx).2 x hxi
      refine .inr ⟨go, m, rfl, fun w H5 hy => ?_⟩
      obtain ⟨e5, r5, s5⟩ := yl w H5 hy
      split at h4
      ·refine sg σ4 H5 μ4 _ M4 x w _ _ _ (by assumption) r5 (r4.ext e5) s5 fun σ6 μ6 H6 e6 r6 s6 _ => ?_
       have e46 := (e4.trans e5).trans e6
       split at h4
       ·refine st σ6 H6 μ6 _ _ _ _ _ (by assumption) r6 s6 fun μ7 H7 e7 s7 => ?_
        show (if true = true then _ else _)
        rw [if_pos rfl]
        split at h4
        ·refine se σ6 H7 μ7 _ _ _ _ _ (by assumption) (r6.ext e7) s7 fun w8 μ8 H8 e8 r8 s8 => ?_
         have e48 := (e46.trans e7).trans e8
         split at h4
         ·split at h4
          ·rename_i acc hacc hl
           obtain ⟨ws, e9, r9⟩ := s8.lst hacc (e48.at hk)
           refine ⟨ws, e9, by rw [<- r9.length]; exact Nat.lt_of_lt_of_le hl lim_line, ?_⟩
           obtain ⟨s10, e10⟩ := s8.write (u := .lst (ws ++ [w8])) (o' := .lst (acc ++ [_])) hacc rfl (e48.at hk) noSt_lst rfl fun e => ⟨_, upd_same, (r9.append (.cons r8 .nil)).ext e⟩
           exact ⟨m, Nat.le_refl _, μ8, _, _, e48.trans e10, ((r6.ext e7).ext e8).ext e10, s10, h4⟩
          ·cases h4
         ·cases h4
        ·cases h4
       ·refine st σ6 H6 μ6 _ _ _ _ _ (by assumption) r6 s6 fun μ7 H7 e7 s7 => ?_
        show (if false = true then _ else _)
        rw [if_neg (by simp)]
        exact ⟨m, Nat.le_refl _, μ7, _, _, e46.trans e7, r6.ext e7, s7, h4⟩
       ·cases h4
      ·cases h4
    ·cases h4
  ·cases h
 ·cases h
def finT : Vl -> Mem -> Option (Vl × Mem)
 | .ref k, M => match M[k]? with
  | some (.lst xs) => some (.tup .trk xs, M)
  | _ => none
 | _, _ => none
theorem finT_ok : FinOk F qTup finT := by
 intro k S μ H M xs ws v M' Q h hk hS hH ra rs q p np
 simp only [finT, hk] at h
 cases h
 obtain ⟨s2, e2, r2⟩ := rs.tup np ra
 exact q _ μ _ e2 r2 s2
theorem finT_k : ∀ k M v M', finT (.ref k) M = some (v, M') -> ∃ xs, M[k]? = some (.lst xs) := by
 intro k M v M' h
 simp only [finT] at h
 split at h
 ·exact ⟨_, by assumption⟩
 ·cases h
theorem se_tupG {fi : Fi} {fg : Fg} {ks : List Nat} {t : Ft} {N0 : List Str} {sc0 : Scope} (hN0 : F.N = N0) (hsc0 : F.sc = sc0) (hgl : Glb F "tuple") (hm : F.mg "tuple" = none) (hlv : F.lv = k + 1) (hcode : F.code = some (.ref c)) (TB : TabB F.base F.mg c P) (hP : P ∈ F.T) (S : gscB N0 sc0 scope own fr js = true) (hi : SI F tg iter fi) (hg : SG (F.gen k scope (own ++ fr)) tg fg ks) (ht : STs (F.gen k scope (own ++ fr)) ifs t)
  (he : SE (F.gen k scope (own ++ fr)) elt fe) (hs : ∀ env v, genFold iter env v = pure v := by intro _ _; rfl)
  (hst : ∀ env, starEach [.GeneratorExp elt [⟨tg, iter, ifs, 0⟩] scope gpos] env = (false, eval (.GeneratorExp elt [⟨tg, iter, ifs, 0⟩] scope gpos) env) :: starEach [] env := by intro _; rfl) :
  SE F (.Call (.Name "tuple" p) [.GeneratorExp elt [⟨tg, iter, ifs, 0⟩] scope gpos] [] pos) (eColG finT own.length js fi fg t fe) := by
 obtain ⟨wi, pi, si⟩ := hi
 obtain ⟨g', pg, sg⟩ := hg
 obtain ⟨tt, pt, st⟩ := ht
 obtain ⟨te, pe, se⟩ := he
 exact ⟨tColG P own js wi g' tt te qTup, fun i => pe_tupG (hgl.gl i) (by rw [F.hmg i]; exact hm) (parts_of (fi := fi) (fg := fg) (ks := ks) (t := t) hlv hcode TB (hN0.symm ▸ hsc0.symm ▸ S) pi pg pt pe hs i) (hst _), semColG (F := F) hP finT_ok finT_k si sg st se⟩
/-- sorted(x), x a list or a tuple -/
def vSortedX : Vl -> Mem -> Option (Vl × Mem)
 | .tup _ xs, M => match mapO (toD 20 M) xs with
   | some ds => if alikeB ds = true /\ (ds.all isTupB || ds.all isFlatB) = true then some (.ref M.length, M ++ [.lst (srt xs ds)]) else none
   | none => none
 | v, M => vSorted v M
theorem cr_or {X : Cx} {fn : Value} {r r' : List V -> Hp -> VK -> Prop} (h : CallR X fn r) (h' : CallR X fn r') : CallR X fn (fun vs H Q => r vs H Q \/ r' vs H Q) := by
 intro pins s σ H vs us Q I rv hh
 exact hh.elim (fun z => h pins s σ H vs us Q I rv z) fun z => h' pins s σ H vs us Q I rv z
theorem se_sortedX (hg : Glb F "sorted") (hm : F.mg "sorted" = none) (ha : SE F e f) (hs : ∀ env, starEach [e] env = (false, eval e env) :: starEach [] env := by intro _; rfl) : SE F (.Call (.Name "sorted" p) [e] [] pos) (eA (v1 vSortedX) (aCons f aNil)) := by
 refine se_blt (fun i => cr_or (F.hK i ▸ cr_sortD (X := F.X i) (F.hr i)) (F.hK i ▸ cr_sortT (X := F.X i) (F.hr i))) ?_ hg hm (by decide +kernel) (sa_cons ha sa_nil hs) (he := hs)
 refine semL1 fun H μ M x w v M' Q h r rs q => ?_
 cases r <;> simp only [vSortedX, vSorted] at h <;> try (cases h; done)
 ·rename_i a d xs ws sq ra kn
  split at h
  ·split at h
   ·rename_i ds hds hc
    cases h
    obtain ⟨a1, a2, a3⟩ := toD_all (n := 20) (fun x w d => toD_ok rs 20 x w d) hds ra
    refine .inr ⟨a, ws, rfl, sq, ds, a1, alike_of hc.1, sortable_of hc.2, fun d hd => Nat.le_trans (depth_all a3 d hd) (by decide), fun p np => ?_⟩
    obtain ⟨s4, e4, r4⟩ := rs.alloc (u := .lst (srt ws ds)) (o := .lst (srt xs ds)) np fun e => ⟨_, upd_same, (rvA_srt ra ds).ext e⟩
    exact q _ _ _ e4 r4 s4
   ·cases h
  ·cases h
 ·rename_i k a hk
  split at h
  ·split at h
   ·split at h
    ·rename_i xs hx _ ds hds hc
     cases h
     obtain ⟨o, g1, g2⟩ := seqAt_some hx
     obtain ⟨ws, sq, ra⟩ := rs.seq g1 g2 hk
     obtain ⟨a1, a2, a3⟩ := toD_all (n := 20) (fun x w d => toD_ok rs 20 x w d) hds ra
     refine .inl ⟨a, ws, ds, rfl, sq, a1, alike_of hc.1, sortable_of hc.2, fun d hd => Nat.le_trans (depth_all a3 d hd) (by decide), fun p np => ?_⟩
     obtain ⟨s4, e4, r4⟩ := rs.alloc (u := .lst (srt ws ds)) (o := .lst (srt xs ds)) np fun e => ⟨_, upd_same, (rvA_srt ra ds).ext e⟩
     exact q _ _ _ e4 r4 s4
    ·cases h
   ·cases h
  ·cases h
end
end Sh
namespace GenE
open PySem PySem.Spec PyProof.Rows L2 NdefX
open GxR (TabB TabG Tabbed inv_tab sh_eta)
end GenE
namespace GenE
open PySem PySem.Spec PyProof.Rows L2 NdefX Sh
open GxR (TabB TabG Tabbed inv_tab sh_eta)
section
variable {X : Cx} {oa : Obj} {D : Hp -> Prop} {Yl : V -> Hp -> (Hp -> Prop) -> Prop} {A : Around} {a : Addr} {g : Nat}
end
end GenE
namespace Sh
open PySem PySem.Spec PyProof.Rows L2 NdefX GenE
open GxR (TabB TabG Tabbed)
end Sh
namespace L2
open PySem PySem.Spec PyProof.Rows
end L2
namespace L2
open PySem PySem.Spec PyProof.Rows
end L2
namespace Sh
open PySem PySem.Spec PyProof.Rows L2 NdefX GenE
end Sh
namespace L2
open PySem PySem.Spec PyProof.Rows NdefX GenE
end L2
namespace Sh
open PySem PySem.Spec PyProof.Rows L2 NdefX GenE
end Sh
namespace Sh
open PySem PySem.Spec PyProof.Rows L2 NdefX GenE
end Sh
namespace Pu
open PySem PySem.Spec PyProof.Rows L2 NdefX GenE Sh
inductive Dv where
 | non | bl (b : Bool) | int (i : Int) | str (x : Str) | tup (t : Tk) (xs : List Dv)
 | lst (xs : List Dv) | fro (xs : List Dv) | dic (kvs : List (Key × Dv)) | dit (kvs : List (List Key × Dv)) | ist (S : List Int) | fdi (kvs : List (Key × Dv)) | fdt (kvs : List (List Key × Dv))
 | exc (c n : Str) (xs : List Dv)
mutual
inductive Den (Z : Nat -> Prop) (M : Mem) : Vl -> Dv -> Prop
 | non : Den Z M .non .non
 | bl (b : Bool) : Den Z M (.bl b) (.bl b)
 | int (i : Int) : Den Z M (.int i) (.int i)
 | str (x : Str) : Den Z M (.str x) (.str x)
 | tup {t : Tk} {xs : List Vl} {ds : List Dv} : DenA Z M xs ds -> Den Z M (.tup t xs) (.tup t ds)
 | ref {k : Nat} {o : Ob} {d : Dv} : Z k -> M[k]? = some o -> DenO Z M o d -> Den Z M (.ref k) d
 | exc {c n : Str} {xs : List Vl} {ds : List Dv} : DenA Z M xs ds -> Den Z M (.exc c n xs) (.exc c n ds)
inductive DenO (Z : Nat -> Prop) (M : Mem) : Ob -> Dv -> Prop
 | lst {xs : List Vl} {ds : List Dv} : DenA Z M xs ds -> DenO Z M (.lst xs) (.lst ds)
 | fro {xs : List Vl} {ds : List Dv} : DenA Z M xs ds -> DenO Z M (.fro xs) (.fro ds)
 | dic {xs : List (Key × Vl)} {ds : List (Key × Dv)} : xs.map (·.1) = ds.map (·.1) -> DenA Z M (xs.map (·.2)) (ds.map (·.2)) -> DenO Z M (.dic xs) (.dic ds)
 | dit {xs : List (List Key × Vl)} {ds : List (List Key × Dv)} : xs.map (·.1) = ds.map (·.1) -> DenA Z M (xs.map (·.2)) (ds.map (·.2)) -> DenO Z M (.dit xs) (.dit ds)
 | ist {S : List Int} : DenO Z M (.ist S) (.ist S)
 | fdi {xs : List (Key × Vl)} {ds : List (Key × Dv)} : xs.map (·.1) = ds.map (·.1) -> DenA Z M (xs.map (·.2)) (ds.map (·.2)) -> DenO Z M (.fdi xs) (.fdi ds)
 | fdt {xs : List (List Key × Vl)} {ds : List (List Key × Dv)} : xs.map (·.1) = ds.map (·.1) -> DenA Z M (xs.map (·.2)) (ds.map (·.2)) -> DenO Z M (.fdt xs) (.fdt ds)
inductive DenA (Z : Nat -> Prop) (M : Mem) : List Vl -> List Dv -> Prop
 | nil : DenA Z M [] []
 | cons {x : Vl} {d : Dv} {xs : List Vl} {ds : List Dv} : Den Z M x d -> DenA Z M xs ds -> DenA Z M (x :: xs) (d :: ds)
end
section
variable {Z Z' : Nat -> Prop} {M M' : Mem}
mutual
theorem Den.mono (hz : ∀ k, Z k -> Z' k) (hm : ∀ k, Z k -> M'[k]? = M[k]?) : ∀ {v : Vl} {d : Dv}, Den Z M v d -> Den Z' M' v d
 | _, _, .non => .non
 | _, _, .bl b => .bl b
 | _, _, .int b => .int b
 | _, _, .str b => .str b
 | _, _, .tup a => .tup (DenA.mono hz hm a)
 | _, _, .ref z h o => .ref (hz _ z) ((hm _ z).trans h) (DenO.mono hz hm o)
 | _, _, .exc a => .exc (DenA.mono hz hm a)
theorem DenO.mono (hz : ∀ k, Z k -> Z' k) (hm : ∀ k, Z k -> M'[k]? = M[k]?) : ∀ {v : Ob} {d : Dv}, DenO Z M v d -> DenO Z' M' v d
 | _, _, .lst a => .lst (DenA.mono hz hm a)
 | _, _, .fro a => .fro (DenA.mono hz hm a)
 | _, _, .dic e a => .dic e (DenA.mono hz hm a)
 | _, _, .dit e a => .dit e (DenA.mono hz hm a)
 | _, _, .ist => .ist
 | _, _, .fdi e a => .fdi e (DenA.mono hz hm a)
 | _, _, .fdt e a => .fdt e (DenA.mono hz hm a)
theorem DenA.mono (hz : ∀ k, Z k -> Z' k) (hm : ∀ k, Z k -> M'[k]? = M[k]?) : ∀ {v : List Vl} {d : List Dv}, DenA Z M v d -> DenA Z' M' v d
 | _, _, .nil => .nil
 | _, _, .cons a b => .cons (Den.mono hz hm a) (DenA.mono hz hm b)
end
theorem DenA.length : ∀ {xs : List Vl} {ds : List Dv}, DenA Z M xs ds -> xs.length = ds.length
 | _, _, .nil => rfl
 | _, _, .cons _ b => congrArg (· + 1) b.length
theorem DenA.get : ∀ {xs : List Vl} {ds : List Dv}, DenA Z M xs ds -> ∀ {i : Nat} {d : Dv}, ds[i]? = some d -> ∃ x, xs[i]? = some x /\ Den Z M x d
 | _, _, .cons a _, 0, _, h => by cases h; exact ⟨_, rfl, a⟩
 | _, _, .cons _ b, i + 1, _, h => b.get (i := i) h
theorem DenA.append : ∀ {xs ys : List Vl} {ds es : List Dv}, DenA Z M xs ds -> DenA Z M ys es -> DenA Z M (xs ++ ys) (ds ++ es)
 | _, _, _, _, .nil, b => b
 | _, _, _, _, .cons a r, b => .cons a (r.append b)
theorem DenA.set : ∀ {xs : List Vl} {ds : List Dv} {i : Nat} {x : Vl} {d : Dv}, DenA Z M xs ds -> Den Z M x d -> DenA Z M (xs.set i x) (ds.set i d)
 | _, _, _, _, _, .nil, _ => .nil
 | _, _, 0, _, _, .cons _ r, h => .cons h r
 | _, _, i + 1, _, _, .cons a r, h => .cons a (r.set h)
theorem DenA.drop : ∀ {xs : List Vl} {ds : List Dv} (i : Nat), DenA Z M xs ds -> DenA Z M (xs.drop i) (ds.drop i)
 | _, _, 0, h => h
 | _, _, _ + 1, .nil => .nil
 | _, _, i + 1, .cons _ b => b.drop i
theorem DenA.take : ∀ {xs : List Vl} {ds : List Dv} (i : Nat), DenA Z M xs ds -> DenA Z M (xs.take i) (ds.take i)
 | _, _, 0, h => .nil
 | _, _, _ + 1, .nil => .nil
 | _, _, i + 1, .cons a b => .cons a (b.take i)
theorem DenA.erase : ∀ {xs : List Vl} {ds : List Dv} (i : Nat), DenA Z M xs ds -> DenA Z M (xs.eraseIdx i) (ds.eraseIdx i)
 | _, _, _, .nil => .nil
 | _, _, 0, .cons _ b => b
 | _, _, i + 1, .cons a b => .cons a (b.erase i)
theorem DenA.reverse : ∀ {xs : List Vl} {ds : List Dv}, DenA Z M xs ds -> DenA Z M xs.reverse ds.reverse
 | _, _, .nil => .nil
 | _, _, .cons a b => by simp only [List.reverse_cons]; exact b.reverse.append (.cons a .nil)
theorem DenA.one {x : Vl} {d : Dv} (h : Den Z M x d) : DenA Z M [x] [d] := .cons h .nil
theorem DenA.flat {xs : List Vl} {ds : List Dv} (h : DenA Z M xs ds) : ∀ n : Nat, DenA Z M (List.replicate n xs).flatten (List.replicate n ds).flatten
 | 0 => .nil
 | n + 1 => by simp only [List.replicate_succ, List.flatten_cons]; exact h.append (h.flat n)
end
/-- a slot: what it has is fixed; lent; its own; the asker's, to be changed; held while it is walked -/
inductive Sl where
 | fz (d : Dv) | bw (d : Dv) | own (d : Dv) | io (d : Dv) | hd (d : Dv)
def Sl.val : Sl -> Dv
 | .fz d => d
 | .bw d => d
 | .own d => d
 | .io d => d
 | .hd d => d
def Sl.mut : Sl -> Bool
 | .own _ => true
 | .io _ => true
 | _ => false
abbrev AEnv := List (Option Sl)
def Hot (Z : Nat -> Prop) (M : Mem) (k : Nat) (d : Dv) : Prop := ¬ Z k /\ ∃ o, M[k]? = some o /\ DenO Z M o d
def SlR (Z : Nat -> Prop) (M : Mem) (v : Vl) : Sl -> Prop
 | .fz d => Den Z M v d
 | .bw d => ∃ k, v = .ref k /\ Hot Z M k d
 | .own d => ∃ k, v = .ref k /\ Hot Z M k d
 | .io d => ∃ k, v = .ref k /\ Hot Z M k d
 | .hd d => ∃ k, v = .ref k /\ Hot Z M k d
/-- what may be changed -/
def Mu (ρ : Sh.Env) (a : AEnv) (k : Nat) : Prop := ∃ (i : Nat) (s : Sl), a[i]? = some (some s) /\ s.mut = true /\ ρ[i]? = some (some (.ref k))
structure Inv (B : Nat) (Z : Nat -> Prop) (M : Mem) (ρ : Sh.Env) (a : AEnv) : Prop where
 len : ρ.length = a.length
 dom : ∀ k : Nat, Z k -> k < M.length
 at_ : ∀ (i : Nat) (s : Sl), a[i]? = some (some s) -> ∃ v, ρ[i]? = some (some v) /\ SlR Z M v s
 sep : ∀ (i j k : Nat) (s t : Sl), i ≠ j -> a[i]? = some (some s) -> s.mut = true -> ρ[i]? = some (some (.ref k)) -> a[j]? = some (some t) -> ρ[j]? ≠ some (some (.ref k))
 base : ∀ (i : Nat) (d : Dv) (k : Nat), a[i]? = some (some (.own d)) -> ρ[i]? = some (some (.ref k)) -> B <= k
 bM : B <= M.length
structure Le (S : Nat -> Prop) (Z : Nat -> Prop) (M : Mem) (Z' : Nat -> Prop) (M' : Mem) : Prop where
 len : M.length <= M'.length
 keep : ∀ k : Nat, k < M.length -> ¬ S k -> M'[k]? = M[k]?
 fz : ∀ k : Nat, k < M.length -> ¬ S k -> (Z' k ↔ Z k)
theorem Le.refl {S Z : Nat -> Prop} {M : Mem} : Le S Z M Z M := ⟨Nat.le_refl _, fun _ _ _ => rfl, fun _ _ _ => Iff.rfl⟩
theorem Le.trans {S S1 Z Z1 Z2 : Nat -> Prop} {M M1 M2 : Mem} (a : Le S Z M Z1 M1) (b : Le S1 Z1 M1 Z2 M2) (h : ∀ k, S1 k -> S k \/ M.length <= k) : Le S Z M Z2 M2 := by
 have q : ∀ k, k < M.length -> ¬ S k -> ¬ S1 k := fun k hk hs hs1 => (h k hs1).elim hs (by omega)
 exact ⟨Nat.le_trans a.len b.len, fun k hk hs => (b.keep k (Nat.lt_of_lt_of_le hk a.len) (q k hk hs)).trans (a.keep k hk hs), fun k hk hs => (b.fz k (Nat.lt_of_lt_of_le hk a.len) (q k hk hs)).trans (a.fz k hk hs)⟩
theorem Le.weak {S S1 Z Z1 : Nat -> Prop} {M M1 : Mem} (a : Le S1 Z M Z1 M1) (h : ∀ k, S1 k -> S k \/ M.length <= k) : Le S Z M Z1 M1 := Le.refl.trans a h
/-- how a slot may come out of an expression -/
inductive Ch : Sl -> Sl -> Prop
 | fz (d : Dv) : Ch (.fz d) (.fz d)
 | bw (d : Dv) : Ch (.bw d) (.bw d)
 | hd (d : Dv) : Ch (.hd d) (.hd d)
 | own (d e : Dv) : Ch (.own d) (.own e)
 | ownf (d e : Dv) : Ch (.own d) (.fz e)
 | io (d e : Dv) : Ch (.io d) (.io e)
theorem Ch.refl (s : Sl) : Ch s s := by cases s <;> constructor
theorem Ch.trans {a b c : Sl} (x : Ch a b) (y : Ch b c) : Ch a c := by cases x <;> cases y <;> constructor
theorem Ch.mut {a b : Sl} (x : Ch a b) (h : b.mut = true) : a.mut = true := by cases x <;> first | exact h | rfl
structure Stp (B : Nat) (ρ : Sh.Env) (Z : Nat -> Prop) (M : Mem) (a : AEnv) (Z' : Nat -> Prop) (M' : Mem) (a' : AEnv) : Prop where
 le : Le (Mu ρ a) Z M Z' M'
 inv : Inv B Z' M' ρ a'
 ch : ∀ (i : Nat) (s : Sl), a[i]? = some (some s) -> ∃ s', a'[i]? = some (some s') /\ Ch s s'
 back : ∀ (i : Nat) (s' : Sl), a'[i]? = some (some s') -> ∃ s, a[i]? = some (some s)
section
variable {B n : Nat} {ρ : Sh.Env} {Z Z1 Z2 : Nat -> Prop} {M M1 M2 : Mem} {a a1 a2 : AEnv}
theorem Inv.hot (h : Inv B Z M ρ a) {k : Nat} (m : Mu ρ a k) : ¬ Z k /\ k < M.length := by
 obtain ⟨i, s, h1, h2, h3⟩ := m
 obtain ⟨v, hv, r⟩ := h.at_ i s h1
 rw [h3] at hv
 cases hv
 cases s with
 | own d =>
  obtain ⟨k', e, nz, o, ho, _⟩ := r
  cases e
  exact ⟨nz, (List.getElem?_eq_some_iff.mp ho).1⟩
 | io d =>
  obtain ⟨k', e, nz, o, ho, _⟩ := r
  cases e
  exact ⟨nz, (List.getElem?_eq_some_iff.mp ho).1⟩
 | _ => cases h2
theorem Inv.nm (h : Inv B Z M ρ a) {k : Nat} (z : Z k) : ¬ Mu ρ a k := fun m => (h.hot m).1 z
/-- frozen things stay -/
theorem Le.zz (h : Inv B Z M ρ a) (l : Le (Mu ρ a) Z M Z1 M1) : ∀ k, Z k -> Z1 k := fun k z => (l.fz k (h.dom k z) (h.nm z)).mpr z
theorem Le.mm (h : Inv B Z M ρ a) (l : Le (Mu ρ a) Z M Z1 M1) : ∀ k, Z k -> M1[k]? = M[k]? := fun k z => l.keep k (h.dom k z) (h.nm z)
theorem Stp.mu (s : Stp B ρ Z M a Z1 M1 a1) {k : Nat} (m : Mu ρ a1 k) : Mu ρ a k := by
 obtain ⟨i, t, h1, h2, h3⟩ := m
 obtain ⟨u, hu⟩ := s.back i t h1
 obtain ⟨t', ht', c⟩ := s.ch i u hu
 rw [h1] at ht'
 cases ht'
 exact ⟨i, u, hu, c.mut h2, h3⟩
theorem Stp.refl (h : Inv B Z M ρ a) : Stp B ρ Z M a Z M a := ⟨Le.refl, h, fun i s e => ⟨s, e, .refl s⟩, fun i s e => ⟨s, e⟩⟩
theorem Stp.trans (x : Stp B ρ Z M a Z1 M1 a1) (y : Stp B ρ Z1 M1 a1 Z2 M2 a2) : Stp B ρ Z M a Z2 M2 a2 := by
 refine ⟨x.le.trans y.le fun k m => .inl (x.mu m), y.inv, fun i s e => ?_, fun i s e => ?_⟩
 ·obtain ⟨s1, e1, c1⟩ := x.ch i s e
  obtain ⟨s2, e2, c2⟩ := y.ch i s1 e1
  exact ⟨s2, e2, c1.trans c2⟩
 ·obtain ⟨s1, e1⟩ := y.back i s e
  exact x.back i s1 e1
/-- what an expression gives: something, its own or not; or what a slot has -/
inductive Av where
 | v (o : Bool) (d : Dv) | pl (i : Nat)
def AvR (n : Nat) (Z : Nat -> Prop) (M : Mem) (ρ : Sh.Env) (a : AEnv) (v : Vl) : Av -> Prop
 | .v false d => Den Z M v d
 | .v true d => ∃ k, v = .ref k /\ n <= k /\ Hot Z M k d /\ ∀ (i : Nat) (s : Sl), a[i]? = some (some s) -> ρ[i]? ≠ some (some (.ref k))
 | .pl i => ρ[i]? = some (some v) /\ ∃ s : Sl, a[i]? = some (some s)
theorem Hot.lt {k : Nat} {d : Dv} (h : Hot Z M k d) : k < M.length := by
 obtain ⟨_, o, ho, _⟩ := h
 exact (List.getElem?_eq_some_iff.mp ho).1
theorem Hot.le {k : Nat} {d : Dv} (h : Hot Z M k d) (i : Inv B Z M ρ a) (l : Le (Mu ρ a) Z M Z1 M1) (nm : ¬ Mu ρ a k) : Hot Z1 M1 k d := by
 have hk := h.lt
 obtain ⟨nz, o, ho, r⟩ := h
 exact ⟨fun z => nz ((l.fz k hk nm).mp z), o, (l.keep k hk nm).trans ho, r.mono (l.zz i) (l.mm i)⟩
theorem AvR.step {v : Vl} {av : Av} (h : AvR n Z M ρ a v av) (i : Inv B Z M ρ a) (s : Stp B ρ Z M a Z1 M1 a1) : AvR n Z1 M1 ρ a1 v av := by
 cases av with
 | pl j =>
  obtain ⟨h1, t, h2⟩ := h
  obtain ⟨t', e, _⟩ := s.ch j t h2
  exact ⟨h1, t', e⟩
 | v o d =>
  cases o with
  | false => exact Den.mono (s.le.zz i) (s.le.mm i) h
  | true =>
   obtain ⟨k, rfl, hn, hot, hs⟩ := h
   refine ⟨k, rfl, hn, hot.le i s.le ?_, fun j t e => ?_⟩
   ·rintro ⟨j, t, h1, _, h3⟩
    exact hs j t h1 h3
   ·obtain ⟨u, hu⟩ := s.back j t e
    exact hs j u hu
theorem AvR.less {m : Nat} {v : Vl} {av : Av} (h : AvR n Z M ρ a v av) (hm : m <= n) : AvR m Z M ρ a v av := by
 cases av with
 | pl j => exact h
 | v o d =>
  cases o with
  | false => exact h
  | true =>
   obtain ⟨k, rfl, hn, r⟩ := h
   exact ⟨k, rfl, Nat.le_trans hm hn, r⟩
def rd (a : AEnv) : Av -> Option Dv
 | .v _ d => some d
 | .pl i => match a[i]? with
  | some (some s) => some s.val
  | _ => none
/-- v reads as d -/
def Rd (Z : Nat -> Prop) (M : Mem) (v : Vl) : Dv -> Prop
 | .non => v = .non
 | .bl b => v = .bl b
 | .int i => v = .int i
 | .str x => v = .str x
 | .tup t ds => ∃ xs, v = .tup t xs /\ DenA Z M xs ds
 | .lst ds => ∃ k xs, v = .ref k /\ M[k]? = some (.lst xs) /\ DenA Z M xs ds
 | .fro ds => ∃ k xs, v = .ref k /\ M[k]? = some (.fro xs) /\ DenA Z M xs ds
 | .dic ds => ∃ k xs, v = .ref k /\ M[k]? = some (.dic xs) /\ xs.map (·.1) = ds.map (·.1) /\ DenA Z M (xs.map (·.2)) (ds.map (·.2))
 | .dit ds => ∃ k xs, v = .ref k /\ M[k]? = some (.dit xs) /\ xs.map (·.1) = ds.map (·.1) /\ DenA Z M (xs.map (·.2)) (ds.map (·.2))
 | .ist S => ∃ k, v = .ref k /\ M[k]? = some (.ist S)
 | .fdi ds => ∃ k xs, v = .ref k /\ M[k]? = some (.fdi xs) /\ xs.map (·.1) = ds.map (·.1) /\ DenA Z M (xs.map (·.2)) (ds.map (·.2))
 | .fdt ds => ∃ k xs, v = .ref k /\ M[k]? = some (.fdt xs) /\ xs.map (·.1) = ds.map (·.1) /\ DenA Z M (xs.map (·.2)) (ds.map (·.2))
 | .exc c n ds => ∃ xs, v = .exc c n xs /\ DenA Z M xs ds
theorem DenO.rd {k : Nat} {o : Ob} {d : Dv} (h : M[k]? = some o) (r : DenO Z M o d) : Rd Z M (.ref k) d := by
 cases r with
 | lst a => exact ⟨k, _, rfl, h, a⟩
 | fro a => exact ⟨k, _, rfl, h, a⟩
 | dic e a => exact ⟨k, _, rfl, h, e, a⟩
 | dit e a => exact ⟨k, _, rfl, h, e, a⟩
 | ist => exact ⟨k, rfl, h⟩
 | fdi e a => exact ⟨k, _, rfl, h, e, a⟩
 | fdt e a => exact ⟨k, _, rfl, h, e, a⟩
theorem Den.rd {v : Vl} {d : Dv} (h : Den Z M v d) : Rd Z M v d := by
 cases h with
 | non => rfl
 | bl b => rfl
 | int b => rfl
 | str b => rfl
 | tup a => exact ⟨_, rfl, a⟩
 | ref z e o => exact o.rd e
 | exc a => exact ⟨_, rfl, a⟩
theorem Hot.rd {k : Nat} {d : Dv} (h : Hot Z M k d) : Rd Z M (.ref k) d := by
 obtain ⟨_, o, ho, r⟩ := h
 exact r.rd ho
theorem SlR.rd {v : Vl} {s : Sl} (h : SlR Z M v s) : Rd Z M v s.val := by
 cases s with
 | fz d => exact Den.rd h
 | _ => obtain ⟨k, rfl, h⟩ := h; exact h.rd
theorem AvR.rd {v : Vl} {av : Av} {d : Dv} (h : AvR n Z M ρ a v av) (i : Inv B Z M ρ a) (e : rd a av = some d) : Rd Z M v d := by
 cases av with
 | v o d' =>
  cases e
  cases o with
  | false => exact Den.rd h
  | true => obtain ⟨k, rfl, _, hot, _⟩ := h; exact hot.rd
 | pl j =>
  obtain ⟨h1, t, h2⟩ := h
  simp only [Pu.rd, h2] at e
  cases e
  obtain ⟨v', hv, r⟩ := i.at_ j t h2
  rw [h1] at hv
  cases hv
  exact r.rd
/-- the slots, with nothing done -/
theorem Inv.le (h : Inv B Z M ρ a) (l : Le (fun _ => False) Z M Z1 M1) (hd : ∀ k, Z1 k -> k < M1.length) : Inv B Z1 M1 ρ a := by
 have l' : Le (Mu ρ a) Z M Z1 M1 := l.weak fun _ f => f.elim
 refine ⟨h.len, hd, fun i s e => ?_, h.sep, h.base, Nat.le_trans h.bM l.len⟩
 obtain ⟨v, hv, r⟩ := h.at_ i s e
 refine ⟨v, hv, ?_⟩
 have q : ∀ {k d}, Hot Z M k d -> Hot Z1 M1 k d := fun {k d} x => by
  have hk := x.lt
  obtain ⟨nz, o, ho, r⟩ := x
  exact ⟨fun z => nz ((l.fz k hk (fun f => f)).mp z), o, (l.keep k hk (fun f => f)).trans ho, r.mono (l'.zz h) (l'.mm h)⟩
 cases s with
 | fz d => exact Den.mono (l'.zz h) (l'.mm h) r
 | _ => obtain ⟨k, e, x⟩ := r; exact ⟨k, e, q x⟩
theorem Stp.grow (h : Inv B Z M ρ a) (l : Le (fun _ => False) Z M Z1 M1) (hd : ∀ k, Z1 k -> k < M1.length) : Stp B ρ Z M a Z1 M1 a :=
 ⟨l.weak fun _ f => f.elim, h.le l hd, fun i s e => ⟨s, e, .refl s⟩, fun i s e => ⟨s, e⟩⟩
theorem Le.app {S : Nat -> Prop} {o : Ob} : Le S Z M Z (M ++ [o]) := by
 refine ⟨by simp, fun k hk _ => List.getElem?_append_left hk, fun _ _ _ => Iff.rfl⟩
theorem Stp.app (h : Inv B Z M ρ a) {o : Ob} : Stp B ρ Z M a Z (M ++ [o]) a :=
 .grow h .app fun k z => by have := h.dom k z; simp; omega
theorem fresh (h : Inv B Z M ρ a) {o : Ob} {d : Dv} (r : DenO Z M o d) : AvR M.length Z (M ++ [o]) ρ a (.ref M.length) (.v true d) := by
 refine ⟨_, rfl, Nat.le_refl _, ⟨fun z => Nat.lt_irrefl _ (h.dom _ z), o, by simp, r.mono (fun _ z => z) fun k z => List.getElem?_append_left (h.dom k z)⟩, fun i s e c => ?_⟩
 obtain ⟨v, hv, q⟩ := h.at_ i s e
 rw [c] at hv
 cases hv
 have : M.length < M.length := by
  cases s with
  | fz d =>
   cases q with
   | ref z ho _ => exact h.dom _ z
  | _ => obtain ⟨k, e, x⟩ := q; cases e; exact x.lt
 exact Nat.lt_irrefl _ this
/-- a slot's reference is in the store -/
theorem Inv.lt (h : Inv B Z M ρ a) {i k : Nat} {s : Sl} (e : a[i]? = some (some s)) (c : ρ[i]? = some (some (.ref k))) : k < M.length := by
 obtain ⟨v, hv, q⟩ := h.at_ i s e
 rw [c] at hv
 cases hv
 cases s with
 | fz d =>
  cases q with
  | ref z ho _ => exact h.dom _ z
 | _ => obtain ⟨k, e, x⟩ := q; cases e; exact x.lt
end
end Pu
namespace Pu
open PySem PySem.Spec PyProof.Rows L2 NdefX GenE Sh
def Res (Z : Nat -> Prop) (M : Mem) (d : Dv) (r : Option (Vl × Mem)) : Bool -> Prop
 | false => ∃ v, r = some (v, M) /\ Den Z M v d
 | true => ∃ ob, r = some (.ref M.length, M ++ [ob]) /\ DenO Z M ob d
def Op2R (op : Vl -> Vl -> Mem -> Option (Vl × Mem)) (dop : Dv -> Dv -> Option (Bool × Dv)) : Prop := ∀ (Z : Nat -> Prop) (M : Mem) (v w : Vl) (d e : Dv) (o : Bool) (r : Dv), Rd Z M v d -> Rd Z M w e -> dop d e = some (o, r) -> Res Z M r (op v w M) o
def Op1R (op : Vl -> Mem -> Option (Vl × Mem)) (dop : Dv -> Option (Bool × Dv)) : Prop := ∀ (Z : Nat -> Prop) (M : Mem) (v : Vl) (d : Dv) (o : Bool) (r : Dv), Rd Z M v d -> dop d = some (o, r) -> Res Z M r (op v M) o
def Dv.seq : Dv -> Option (List Dv)
 | .lst xs => some xs
 | .fro xs => some xs
 | _ => none
section
variable {Z : Nat -> Prop} {M : Mem}
theorem Rd.seq {v : Vl} {d : Dv} {ds : List Dv} (h : Rd Z M v d) (e : d.seq = some ds) : ∃ k xs, v = .ref k /\ seqAt M k = some xs /\ DenA Z M xs ds := by
 cases d <;> cases e
 ·obtain ⟨k, xs, rfl, hk, r⟩ := h
  exact ⟨k, xs, rfl, by unfold seqAt; rw [hk]; rfl, r⟩
 ·obtain ⟨k, xs, rfl, hk, r⟩ := h
  exact ⟨k, xs, rfl, by unfold seqAt; rw [hk]; rfl, r⟩
def toDD : Nat -> Dv -> Option PyData
 | 0, _ => none
 | _ + 1, .non => some .none
 | _ + 1, .bl b => some (.bool b)
 | _ + 1, .int i => some (.int i)
 | _ + 1, .str x => if PyData.strOk x then some (.str x) else none
 | n + 1, .tup _ xs => (mapO (toDD n) xs).map .tuple
 | n + 1, .lst xs => (mapO (toDD n) xs).map .list
 | n + 1, .fro xs => (mapO (toDD n) xs).map .list
 | _ + 1, .dic _ => none
 | _ + 1, .dit _ => none
 | _ + 1, .ist _ => none
 | _ + 1, .fdi _ => none
 | _ + 1, .fdt _ => none
 | _ + 1, .exc _ _ _ => none
theorem mapO_den {n : Nat} (ih : ∀ {v : Vl} {d : Dv}, Rd Z M v d -> toD n M v = toDD n d) : ∀ {xs : List Vl} {ds : List Dv}, DenA Z M xs ds -> mapO (toD n M) xs = mapO (toDD n) ds
 | _, _, .nil => rfl
 | _, _, .cons a b => by unfold mapO; rw [ih a.rd, mapO_den ih b]
theorem toD_eq : ∀ {n : Nat} {v : Vl} {d : Dv}, Rd Z M v d -> toD n M v = toDD n d
 | 0, _, _, _ => by unfold toD toDD; rfl
 | n + 1, v, d, h => by
  cases d with
  | non => cases h; rfl
  | bl b => cases h; rfl
  | int i => cases h; rfl
  | str x => cases h; rfl
  | tup t ds =>
   obtain ⟨xs, rfl, r⟩ := h
   unfold toD toDD
   rw [mapO_den (toD_eq (n := n)) r]
  | lst ds =>
   obtain ⟨k, xs, rfl, hk, r⟩ := h
   unfold toD toDD seqAt
   rw [hk]
   simp only [Ob.seq]
   rw [mapO_den (toD_eq (n := n)) r]
  | fro ds =>
   obtain ⟨k, xs, rfl, hk, r⟩ := h
   unfold toD toDD seqAt
   rw [hk]
   simp only [Ob.seq]
   rw [mapO_den (toD_eq (n := n)) r]
  | dic ds =>
   obtain ⟨k, xs, rfl, hk, r⟩ := h
   unfold toD toDD seqAt
   rw [hk]
   simp only [Ob.seq]
  | dit ds =>
   obtain ⟨k, xs, rfl, hk, r⟩ := h
   unfold toD toDD seqAt
   rw [hk]
   simp only [Ob.seq]
  | ist S =>
   obtain ⟨k, rfl, hk⟩ := h
   unfold toD toDD seqAt
   rw [hk]
   simp only [Ob.seq]
  | fdi ds =>
   obtain ⟨k, xs, rfl, hk, r⟩ := h
   unfold toD toDD seqAt
   rw [hk]
   simp only [Ob.seq]
  | fdt ds =>
   obtain ⟨k, xs, rfl, hk, r⟩ := h
   unfold toD toDD seqAt
   rw [hk]
   simp only [Ob.seq]
  | exc c n ds =>
   obtain ⟨xs, rfl, r⟩ := h
   rfl
end
def dAdd : Dv -> Dv -> Option (Bool × Dv)
 | .int i, .int j => some (false, .int (i + j))
 | .str a, .str b => if a.length + b.length <= lim then some (false, .str (a ++ b)) else none
 | .tup _ a, .tup _ b => if a.length + b.length <= lim then some (false, .tup .any (a ++ b)) else none
 | .lst a, .lst b => if a.length + b.length <= lim then some (true, .lst (a ++ b)) else none
 | _, _ => none
theorem r_add : Op2R vAdd dAdd := by
 intro Z M v w d e o r hv hw h
 unfold dAdd at h
 split at h
 ·cases h; cases hv; cases hw; exact ⟨_, rfl, .int _⟩
 ·split at h
  ·cases h; cases hv; cases hw
   rename_i hl
   exact ⟨_, by unfold vAdd; simp only [if_pos hl], .str _⟩
  ·cases h
 ·split at h
  ·rename_i hl
   cases h
   obtain ⟨xs, rfl, rx⟩ := hv
   obtain ⟨ys, rfl, ry⟩ := hw
   refine ⟨_, by unfold vAdd; simp only [rx.length, ry.length, if_pos hl], .tup (rx.append ry)⟩
  ·cases h
 ·split at h
  ·rename_i hl
   cases h
   obtain ⟨k, xs, rfl, hk, rx⟩ := hv
   obtain ⟨j, ys, rfl, hj, ry⟩ := hw
   refine ⟨.lst (xs ++ ys), by unfold vAdd; simp only [hk, hj, rx.length, ry.length, if_pos hl], .lst (rx.append ry)⟩
  ·cases h
 ·cases h
def dInt (C : Int -> Int -> Prop) [∀ i j, Decidable (C i j)] (g : Int -> Int -> Int) : Dv -> Dv -> Option (Bool × Dv)
 | .int i, .int j => if C i j then some (false, .int (g i j)) else none
 | _, _ => none
theorem r_int {C : Int -> Int -> Prop} [∀ i j, Decidable (C i j)] {g : Int -> Int -> Int} : Op2R (Sh.vInt C g) (dInt C g) := by
 intro Z M v w d e o r hv hw h
 unfold dInt at h
 split at h
 ·split at h
  ·rename_i hc
   cases h; cases hv; cases hw; exact ⟨_, by unfold Sh.vInt; simp only [if_pos hc], .int _⟩
  ·cases h
 ·cases h
def dSub := dInt (fun _ _ => True) (· - ·)
def dMod := dInt (fun _ j => 0 < j) (· % ·)
def dDiv := dInt CDiv (· / ·)
def dPow := dInt CPow (fun i j => i ^ j.toNat)
theorem r_sub : Op2R vSub dSub := r_int
theorem r_mod : Op2R vMod dMod := r_int
theorem r_div : Op2R vDiv dDiv := r_int
theorem r_pow : Op2R vPow dPow := r_int
def dMul : Dv -> Dv -> Option (Bool × Dv)
 | .int i, .int j => if CMul i j then some (false, .int (i * j)) else none
 | .tup _ xs, .int k => if xs ≠ [] /\ 2 <= k /\ k <= 1000 /\ xs.length <= 1000 then some (false, .tup .any (List.replicate k.toNat xs).flatten) else none
 | _, _ => none
theorem r_mul : Op2R vMul dMul := by
 intro Z M v w d e o r hv hw h
 unfold dMul at h
 split at h
 ·split at h
  ·rename_i hc
   cases h; cases hv; cases hw; exact ⟨_, by unfold vMul; simp only [if_pos hc], .int _⟩
  ·cases h
 ·split at h
  ·rename_i hc
   cases h; cases hw
   obtain ⟨xs, rfl, rx⟩ := hv
   have hn : xs ≠ [] := fun z => by subst z; cases rx; exact hc.1 rfl
   refine ⟨_, by unfold vMul; simp only [rx.length]; rw [if_pos ⟨hn, hc.2⟩], .tup (rx.flat _)⟩
  ·cases h
 ·cases h
def dCmp (g : Int -> Int -> Bool) : Dv -> Dv -> Option (Bool × Dv)
 | .int i, .int j => some (false, .bl (g i j))
 | _, _ => none
theorem r_cmp {g : Int -> Int -> Bool} : Op2R (vCmp g) (dCmp g) := by
 intro Z M v w d e o r hv hw h
 unfold dCmp at h
 split at h
 ·cases h; cases hv; cases hw; exact ⟨_, rfl, .bl _⟩
 ·cases h
def dLe := dCmp fun i j => decide (i <= j)
def dGt := dCmp fun i j => decide (j < i)
def dGe := dCmp fun i j => decide (j <= i)
theorem r_le : Op2R vLe dLe := r_cmp
theorem r_ge : Op2R vGe dGe := r_cmp
def intsD : List Dv -> Option (List Int)
 | [] => some []
 | .int i :: xs => (intsD xs).map (i :: ·)
 | _ => none
theorem ints_eq {Z : Nat -> Prop} {M : Mem} : ∀ {xs : List Vl} {ds : List Dv} {ns : List Int}, DenA Z M xs ds -> intsD ds = some ns -> intsOf xs = some ns
 | _, _, _, .nil, h => by cases h; rfl
 | _, _, _, .cons a b, h => by
  unfold intsD at h
  split at h
  ·rename_i e; cases e
  ·rename_i e
   cases e
   cases a with
   | int =>
    unfold intsOf
    rcases hq : intsD _ with _ | ns
    ·rw [hq] at h; cases h
    ·rw [hq] at h
     cases h
     rw [ints_eq b hq]
     rfl
   | ref _ _ o => cases o
  ·cases h
def dLt : Dv -> Dv -> Option (Bool × Dv)
 | .tup _ xs, .tup _ ys => match intsD xs, intsD ys with
  | some ns, some ms => some (false, .bl (HT.lexLt ns ms))
  | _, _ => none
 | .int i, .int j => some (false, .bl (decide (i < j)))
 | .str a, .str b => some (false, .bl (decide (a.cps.toList < b.cps.toList)))
 | _, _ => none
theorem r_lt : Op2R vLtX dLt := by
 intro Z M v w d e o r hv hw h
 unfold dLt at h
 split at h
 ·split at h
  ·cases h
   obtain ⟨xs, rfl, rx⟩ := hv
   obtain ⟨ys, rfl, ry⟩ := hw
   refine ⟨_, by unfold vLtX; simp only [ints_eq rx (by assumption), ints_eq ry (by assumption)] <;> rfl, .bl _⟩
  ·cases h
 ·cases h; cases hv; cases hw; exact ⟨_, rfl, .bl _⟩
 ·cases h; cases hv; cases hw; exact ⟨_, rfl, .bl _⟩
 ·cases h
def dEq : Dv -> Dv -> Option (Bool × Dv) := fun x y => match toDD 20 x, toDD 20 y with
 | some d, some e => some (false, .bl (PyData.eqv d e))
 | _, _ => none
theorem r_eq : Op2R vEq dEq := by
 intro Z M v w d e o r hv hw h
 unfold dEq at h
 split at h
 ·rename_i h1 h2
  cases h
  refine ⟨_, by unfold vEq; rw [toD_eq hv, toD_eq hw, h1, h2], .bl _⟩
 ·cases h
def dNe : Dv -> Dv -> Option (Bool × Dv) := fun x y => match toDD 20 x, toDD 20 y with
 | some d, some e => some (false, .bl (!PyData.eqv d e))
 | _, _ => none
theorem r_ne : Op2R vNe dNe := by
 intro Z M v w d e o r hv hw h
 unfold dNe at h
 split at h
 ·rename_i h1 h2
  cases h
  refine ⟨_, by unfold vNe; rw [toD_eq hv, toD_eq hw, h1, h2], .bl _⟩
 ·cases h
def inD : Dv -> Dv -> Option Bool
 | .str a, .str b => some (!(Builtin.Str.occurrences b a 0 b.length 1).isEmpty)
 | x, .tup dd ys => match toDD 20 x, toDD 20 (.tup dd ys) with
  | some d, some (.tuple ds) => some (ds.any fun z => PyData.eqv z d)
  | _, _ => none
 | x, .lst ys => match toDD 20 x, toDD 20 (.lst ys) with
  | some d, some (.list ds) => some (ds.any fun z => PyData.eqv z d)
  | _, _ => none
 | _, _ => none
theorem in_eq {Z : Nat -> Prop} {M : Mem} {v w : Vl} {d e : Dv} {b : Bool} (hv : Rd Z M v d) (hw : Rd Z M w e) (h : inD d e = some b) : inOf M v w = some b := by
 unfold inD at h
 split at h
 ·cases h; cases hv; cases hw; rfl
 ·have q := toD_eq (n := 20) hw
  have q' := toD_eq (n := 20) hv
  obtain ⟨ys, rfl, ry⟩ := hw
  have e : ∀ (t : Tk), inOf M v (.tup t ys) = match toD 20 M v, toD 20 M (.tup t ys) with
   | some d, some (.tuple ds) => some (ds.any fun z => PyData.eqv z d)
   | _, _ => none := fun t => by cases v <;> rfl
  rw [e, q, q']
  exact h
 ·have q := toD_eq (n := 20) hw
  have q' := toD_eq (n := 20) hv
  obtain ⟨k, ys, rfl, hk, ry⟩ := hw
  have e : inOf M v (.ref k) = match toD 20 M v, toD 20 M (.ref k) with
   | some d, some (.list ds) => some (ds.any fun z => PyData.eqv z d)
   | _, _ => none := by cases v <;> rfl
  rw [e, q, q']
  exact h
 ·cases h
def dIn : Dv -> Dv -> Option (Bool × Dv) := fun x y => (inD x y).map fun b => (false, .bl b)
def dNotIn : Dv -> Dv -> Option (Bool × Dv) := fun x y => (inD x y).map fun b => (false, .bl (!b))
theorem r_in : Op2R vIn dIn := by
 intro Z M v w d e o r hv hw h
 unfold dIn at h
 rcases hb : inD d e with _ | b
 ·rw [hb] at h; cases h
 ·rw [hb] at h; cases h
  exact ⟨_, by unfold vIn; rw [in_eq hv hw hb]; rfl, .bl _⟩
theorem r_notIn : Op2R vNotIn dNotIn := by
 intro Z M v w d e o r hv hw h
 unfold dNotIn at h
 rcases hb : inD d e with _ | b
 ·rw [hb] at h; cases h
 ·rw [hb] at h; cases h
  exact ⟨_, by unfold vNotIn; rw [in_eq hv hw hb]; rfl, .bl _⟩
def dIs : Dv -> Dv -> Option (Bool × Dv)
 | .bl x, .bl y => some (false, .bl (decide (x = y)))
 | .non, .non => some (false, .bl true)
 | .bl _, .non => some (false, .bl false)
 | .int _, .non => some (false, .bl false)
 | .str _, .non => some (false, .bl false)
 | .tup _ _, .non => some (false, .bl false)
 | .lst _, .non => some (false, .bl false)
 | .dic _, .non => some (false, .bl false)
 | .dit _, .non => some (false, .bl false)
 | _, _ => none
theorem r_is : Op2R vIs dIs := by
 intro Z M v w d e o r hv hw h
 unfold dIs at h
 split at h <;> cases h <;> cases hw
 ·cases hv; exact ⟨_, rfl, .bl _⟩
 ·cases hv; exact ⟨_, rfl, .bl _⟩
 ·cases hv; exact ⟨_, rfl, .bl _⟩
 ·cases hv; exact ⟨_, rfl, .bl _⟩
 ·cases hv; exact ⟨_, rfl, .bl _⟩
 ·obtain ⟨_, rfl, _⟩ := hv; exact ⟨_, rfl, .bl _⟩
 ·obtain ⟨_, _, rfl, _⟩ := hv; exact ⟨_, rfl, .bl _⟩
 ·obtain ⟨_, _, rfl, _⟩ := hv; exact ⟨_, rfl, .bl _⟩
 ·obtain ⟨_, _, rfl, _⟩ := hv; exact ⟨_, rfl, .bl _⟩
def dIsNot : Dv -> Dv -> Option (Bool × Dv)
 | .bl x, .bl y => some (false, .bl (!decide (x = y)))
 | .non, .non => some (false, .bl false)
 | .bl _, .non => some (false, .bl true)
 | .int _, .non => some (false, .bl true)
 | .str _, .non => some (false, .bl true)
 | .tup _ _, .non => some (false, .bl true)
 | .lst _, .non => some (false, .bl true)
 | .dic _, .non => some (false, .bl true)
 | .dit _, .non => some (false, .bl true)
 | _, _ => none
theorem r_isNot : Op2R vIsNot dIsNot := by
 intro Z M v w d e o r hv hw h
 unfold dIsNot at h
 split at h <;> cases h <;> cases hw
 ·cases hv; exact ⟨_, rfl, .bl _⟩
 ·cases hv; exact ⟨_, rfl, .bl _⟩
 ·cases hv; exact ⟨_, rfl, .bl _⟩
 ·cases hv; exact ⟨_, rfl, .bl _⟩
 ·cases hv; exact ⟨_, rfl, .bl _⟩
 ·obtain ⟨_, rfl, _⟩ := hv; exact ⟨_, rfl, .bl _⟩
 ·obtain ⟨_, _, rfl, _⟩ := hv; exact ⟨_, rfl, .bl _⟩
 ·obtain ⟨_, _, rfl, _⟩ := hv; exact ⟨_, rfl, .bl _⟩
 ·obtain ⟨_, _, rfl, _⟩ := hv; exact ⟨_, rfl, .bl _⟩
theorem DenA.ixI {Z : Nat -> Prop} {M : Mem} {xs : List Vl} {ds : List Dv} {i : Int} {d : Dv} (r : DenA Z M xs ds) (h : atI ds i = some d) : ∃ x, atI xs i = some x /\ Den Z M x d := by
 unfold atI at h ⊢
 rw [r.length]
 rcases hj : ixN ds.length i with _ | j
 ·rw [hj] at h; cases h
 ·rw [hj] at h
  obtain ⟨x, hx, q⟩ := r.get h
  exact ⟨x, hx, q⟩
def dIx : Dv -> Dv -> Option (Bool × Dv)
 | .tup _ xs, .int i => (atI xs i).map fun x => (false, x)
 | .lst xs, .int i => (atI xs i).map fun x => (false, x)
 | .fro xs, .int i => (atI xs i).map fun x => (false, x)
 | .str z, .int i => if z.length <= lim then (atI z.cps.toList i).map fun c => (false, .str ⟨#[c]⟩) else none
 | _, _ => none
theorem r_ix : Op2R vIx dIx := by
 intro Z M v w d e o r hv hw h
 have seqc : ∀ {ds : List Dv} {i : Int}, d.seq = some ds -> e = .int i -> (atI ds i).map (fun x => (false, x)) = some (o, r) -> Res Z M r (vIx v w M) o := fun {ds i} he hi hq => by
  subst hi
  obtain ⟨k, xs, rfl, hk, ra⟩ := hv.seq he
  cases hw
  rcases ha : atI ds i with _ | x
  ·rw [ha] at hq; cases hq
  ·rw [ha] at hq; cases hq
   obtain ⟨y, hy, q⟩ := ra.ixI ha
   exact ⟨y, by unfold vIx; simp only [hk, hy] <;> rfl, q⟩
 unfold dIx at h
 split at h
 ·obtain ⟨xs, rfl, ra⟩ := hv
  cases hw
  rename_i ds i
  rcases ha : atI ds i with _ | x
  ·rw [ha] at h; cases h
  ·rw [ha] at h; cases h
   obtain ⟨y, hy, q⟩ := ra.ixI ha
   exact ⟨y, by unfold vIx; simp only [hy] <;> rfl, q⟩
 ·exact seqc rfl rfl h
 ·exact seqc rfl rfl h
 ·split at h
  ·rename_i z i hl
   cases hv; cases hw
   rcases ha : atI z.cps.toList i with _ | x
   ·rw [ha] at h; cases h
   ·rw [ha] at h; cases h
    exact ⟨_, by unfold vIx; simp only [if_pos hl, ha] <;> rfl, .str _⟩
  ·cases h
 ·cases h
theorem DenA.cut {Z : Nat -> Prop} {M : Mem} {xs : List Vl} {ds : List Dv} {lo hi : Option Int} (r : DenA Z M xs ds) : DenA Z M (cutL xs lo hi) (cutL ds lo hi) := by
 unfold cutL
 rw [r.length]
 exact (r.drop _).take _
def dSl : Dv -> Option Int -> Option Int -> Option (Bool × Dv)
 | .tup _ xs, lo, hi => some (false, .tup .any (cutL xs lo hi))
 | .str z, lo, hi => if z.length <= lim then some (false, .str (cutS z lo hi)) else none
 | .lst xs, lo, hi => some (true, .lst (cutL xs lo hi))
 | .fro xs, lo, hi => some (true, .lst (cutL xs lo hi))
 | _, _, _ => none
theorem r_sl {Z : Nat -> Prop} {M : Mem} {v : Vl} {d : Dv} {lo hi : Option Int} {o : Bool} {r : Dv} (hv : Rd Z M v d) (h : dSl d lo hi = some (o, r)) : Res Z M r (vSl v lo hi M) o := by
 have seqc : ∀ {ds : List Dv}, d.seq = some ds -> some (true, Dv.lst (cutL ds lo hi)) = some (o, r) -> Res Z M r (vSl v lo hi M) o := fun {ds} he hq => by
  cases hq
  obtain ⟨k, xs, rfl, hk, ra⟩ := hv.seq he
  exact ⟨_, by unfold vSl; simp only [hk] <;> rfl, .lst ra.cut⟩
 unfold dSl at h
 split at h
 ·cases h
  obtain ⟨xs, rfl, ra⟩ := hv
  exact ⟨_, rfl, .tup ra.cut⟩
 ·split at h
  ·rename_i hl
   cases h; cases hv
   exact ⟨_, by unfold vSl; simp only [if_pos hl] <;> rfl, .str _⟩
  ·cases h
 ·exact seqc rfl h
 ·exact seqc rfl h
 ·cases h
def dLen : Dv -> Option (Bool × Dv)
 | .tup _ xs => some (false, .int xs.length)
 | .str z => if z.length <= lim then some (false, .int z.length) else none
 | .lst xs => some (false, .int xs.length)
 | .fro xs => some (false, .int xs.length)
 | _ => none
theorem r_len : Op1R vLen dLen := by
 intro Z M v d o r hv h
 have seqc : ∀ {ds : List Dv}, d.seq = some ds -> some (false, Dv.int ds.length) = some (o, r) -> Res Z M r (vLen v M) o := fun {ds} he hq => by
  cases hq
  obtain ⟨k, xs, rfl, hk, ra⟩ := hv.seq he
  exact ⟨_, by unfold vLen; simp only [hk, ra.length] <;> rfl, .int _⟩
 unfold dLen at h
 split at h
 ·cases h
  obtain ⟨xs, rfl, ra⟩ := hv
  exact ⟨_, by simp only [vLen, ra.length], .int _⟩
 ·split at h
  ·rename_i hl
   cases h; cases hv
   exact ⟨_, by unfold vLen; simp only [if_pos hl] <;> rfl, .int _⟩
  ·cases h
 ·exact seqc rfl h
 ·exact seqc rfl h
 ·cases h
def tyD : Dv -> Option String
 | .non => some "NoneType"
 | .bl _ => some "bool"
 | .int _ => some "int"
 | .str _ => some "str"
 | .tup _ _ => some "tuple"
 | .lst _ => some "list"
 | .dic _ => some "dict"
 | _ => none
theorem ty_eq {Z : Nat -> Prop} {M : Mem} {v : Vl} {d : Dv} {t : String} (hv : Rd Z M v d) (h : tyD d = some t) : tyN M v = some t := by
 cases d <;> cases h
 ·cases hv; rfl
 ·cases hv; rfl
 ·cases hv; rfl
 ·cases hv; rfl
 ·obtain ⟨_, rfl, _⟩ := hv; rfl
 ·obtain ⟨k, xs, rfl, hk, _⟩ := hv; simp only [tyN, hk]
 ·obtain ⟨k, xs, rfl, hk, _⟩ := hv; simp only [tyN, hk]
def dList : Dv -> Option (Bool × Dv)
 | .tup _ xs => some (true, .lst xs)
 | .lst xs => some (true, .lst xs)
 | .fro xs => some (true, .lst xs)
 | _ => none
theorem r_list : Op1R vList dList := by
 intro Z M v d o r hv h
 have seqc : ∀ {ds : List Dv}, d.seq = some ds -> some (true, Dv.lst ds) = some (o, r) -> Res Z M r (vList v M) o := fun {ds} he hq => by
  cases hq
  obtain ⟨k, xs, rfl, hk, ra⟩ := hv.seq he
  exact ⟨_, by unfold vList; simp only [hk] <;> rfl, .lst ra⟩
 unfold dList at h
 split at h
 ·cases h
  obtain ⟨xs, rfl, ra⟩ := hv
  exact ⟨_, rfl, .lst ra⟩
 ·exact seqc rfl h
 ·exact seqc rfl h
 ·cases h
def dTuple : Dv -> Option (Bool × Dv)
 | .tup t xs => some (false, .tup t xs)
 | .lst xs => some (false, .tup .nod xs)
 | .fro xs => some (false, .tup .nod xs)
 | _ => none
theorem r_tuple : Op1R vTuple dTuple := by
 intro Z M v d o r hv h
 have seqc : ∀ {ds : List Dv}, d.seq = some ds -> some (false, Dv.tup .nod ds) = some (o, r) -> Res Z M r (vTuple v M) o := fun {ds} he hq => by
  cases hq
  obtain ⟨k, xs, rfl, hk, ra⟩ := hv.seq he
  exact ⟨_, by unfold vTuple; simp only [hk] <;> rfl, .tup ra⟩
 unfold dTuple at h
 split at h
 ·cases h
  obtain ⟨xs, rfl, ra⟩ := hv
  exact ⟨_, rfl, .tup ra⟩
 ·exact seqc rfl h
 ·exact seqc rfl h
 ·cases h
def boolsD : List Dv -> Option (List Bool)
 | [] => some []
 | .bl b :: xs => (boolsD xs).map (b :: ·)
 | _ => none
def txtsD : List Dv -> Option (List Str)
 | [] => some []
 | .str b :: xs => (txtsD xs).map (b :: ·)
 | _ => none
theorem txts_eq {Z : Nat -> Prop} {M : Mem} : ∀ {xs : List Vl} {ds : List Dv} {ns : List Str}, DenA Z M xs ds -> txtsD ds = some ns -> txts xs = some ns
 | _, _, _, .nil, h => by cases h; rfl
 | _, _, _, .cons a b, h => by
  unfold txtsD at h
  split at h
  ·rename_i e; cases e
  ·rename_i e
   cases e
   cases a with
   | str =>
    unfold txts
    rcases hq : txtsD _ with _ | ns
    ·rw [hq] at h; cases h
    ·rw [hq] at h
     cases h
     rw [txts_eq b hq]
     rfl
   | ref _ _ o => cases o
  ·cases h
def dAll : Dv -> Option (Bool × Dv)
 | .lst xs => (boolsD xs).map fun bs => (false, .bl (bs.all id))
 | _ => none
def dJoin : Dv -> Dv -> Option (Bool × Dv)
 | .str a, .lst xs => match txtsD xs with
   | some ys => if (ys.map (·.length)).sum + ys.length * a.length <= lim then some (false, .str (Txt.join a ys)) else none
   | none => none
 | .str a, .tup _ xs => match txtsD xs with
   | some ys => if (ys.map (·.length)).sum + ys.length * a.length <= lim then some (false, .str (Txt.join a ys)) else none
   | none => none
 | _, _ => none
theorem r_join : Op2R vJoin dJoin := by
 intro Z M v w d e o r hv hw h
 unfold dJoin at h
 split at h
 ·split at h
  ·split at h
   ·rename_i hq hl
    cases h; cases hv
    obtain ⟨k, xs, rfl, hk, ra⟩ := hw.seq rfl
    exact ⟨_, by unfold vJoin; simp only [hk, txts_eq ra hq, if_pos hl] <;> rfl, .str _⟩
   ·cases h
  ·cases h
 ·split at h
  ·split at h
   ·rename_i hq hl
    cases h; cases hv
    obtain ⟨xs, rfl, ra⟩ := hw
    exact ⟨_, by unfold vJoin; simp only [txts_eq ra hq, if_pos hl] <;> rfl, .str _⟩
   ·cases h
  ·cases h
 ·cases h
def dSIndex : Dv -> Dv -> Option (Bool × Dv)
 | .str a, .str b => match Builtin.Str.occurrences a b 0 a.length 1 with
  | i :: _ => some (false, .int (i : Nat))
  | [] => none
 | _, _ => none
theorem r_sindex : Op2R vSIndex dSIndex := by
 intro Z M v w d e o r hv hw h
 unfold dSIndex at h
 split at h
 ·split at h
  ·rename_i hq
   cases h; cases hv; cases hw
   exact ⟨_, by unfold vSIndex; simp only [hq] <;> rfl, .int _⟩
  ·cases h
 ·cases h
section
variable {Z : Nat -> Prop} {M : Mem}
theorem den_zips : ∀ {xs : List Vl} {ws : List Dv} (ds : List PyData), DenA Z M xs ws -> PySem.W.EachIs (fun (x : Vl × PyData) (w : Dv × PyData) => Den Z M x.1 w.1 /\ x.2 = w.2) (xs.zip ds) (ws.zip ds)
 | _, _, _, .nil => by simp; exact .nil
 | _, _, [], .cons _ _ => .nil
 | _, _, d :: ds, .cons a b => .cons ⟨a, rfl⟩ (den_zips ds b)
theorem den_fst : ∀ {xs : List (Vl × PyData)} {ws : List (Dv × PyData)}, PySem.W.EachIs (fun (x : Vl × PyData) (w : Dv × PyData) => Den Z M x.1 w.1 /\ x.2 = w.2) xs ws -> DenA Z M (xs.map Prod.fst) (ws.map Prod.fst)
 | _, _, .nil => .nil
 | _, _, .cons a b => .cons a.1 (den_fst b)
theorem den_same {xs : List (Vl × PyData)} {ws : List (Dv × PyData)} (h : PySem.W.EachIs (fun (x : Vl × PyData) (w : Dv × PyData) => Den Z M x.1 w.1 /\ x.2 = w.2) xs ws) : ∀ p ∈ xs.zip ws, p.1.2 = p.2.2 := by
 induction h with
 | nil => intro p hp; simp at hp
 | cons a b ih =>
  intro p hp
  rw [List.zip_cons_cons] at hp
  rcases List.mem_cons.mp hp with rfl | hp
  ·exact a.2
  ·exact ih p hp
theorem DenA.srt {xs : List Vl} {es : List Dv} (r : DenA Z M xs es) (ds : List PyData) : DenA Z M (Sh.srt xs ds) (Sh.srt es ds) := by
 have z := den_zips ds r
 refine den_fst (PySem.W.sort_each z fun p hp q hq => ?_)
 show PySem.W.dataLe false Prod.snd p.1 q.1 = PySem.W.dataLe false Prod.snd p.2 q.2
 unfold PySem.W.dataLe PySem.W.sortLe
 simp only [den_same z p hp, den_same z q hq]
end
def dSorted : Dv -> Option (Bool × Dv)
 | .lst xs => match mapO (toDD 20) xs with
   | some ds => if alikeB ds = true /\ (ds.all isTupB || ds.all isFlatB) = true then some (true, .lst (Sh.srt xs ds)) else none
   | none => none
 | _ => none
theorem r_sorted : Op1R vSorted dSorted := by
 intro Z M v d o r hv h
 unfold dSorted at h
 split at h
 ·split at h
  ·split at h
   ·rename_i hq hc
    cases h
    obtain ⟨k, xs, rfl, hk, ra⟩ := hv.seq rfl
    have e := mapO_den (n := 20) toD_eq ra
    refine ⟨_, by unfold vSorted; simp only [hk, e, hq, if_pos hc] <;> rfl, .lst (ra.srt _)⟩
   ·cases h
  ·cases h
 ·cases h
section
variable {Z : Nat -> Prop} {M : Mem} {κ : Type} [DecidableEq κ]
def putD (kvs : List (κ × Dv)) (k : κ) (v : Dv) : List (κ × Dv) := if (kvs.any fun kv => decide (kv.1 = k)) = true then kvs.map (fun kv => if kv.1 = k then (kv.1, v) else kv) else kvs ++ [(k, v)]
def lookD (kvs : List (κ × Dv)) (k : κ) : Option Dv := (kvs.find? fun kv => decide (kv.1 = k)).map (·.2)
end
def keyD : Dv -> Option Key
 | .int i => some (.inl i)
 | .str x => some (.inr x)
 | _ => none
def tkeyD : Dv -> Option (List Key)
 | .tup .trk xs => mapO keyD xs
 | _ => none
def dLookD : Dv -> Dv -> Option (Option Dv)
 | .dic kvs, y => (keyD y).map (lookD kvs)
 | .dit kvs, y => (tkeyD y).map (lookD kvs)
 | .fdi kvs, y => (keyD y).map (lookD kvs)
 | .fdt kvs, y => (tkeyD y).map (lookD kvs)
 | _, _ => none
def dDG : Dv -> Dv -> Option (Bool × Dv) := fun x y => match dLookD x y with
 | some (some v) => some (false, v)
 | _ => none
def dDIn : Dv -> Dv -> Option (Bool × Dv) := fun y x => (dLookD x y).map fun r => (false, .bl r.isSome)
def dDNotIn : Dv -> Dv -> Option (Bool × Dv) := fun y x => (dLookD x y).map fun r => (false, .bl (!r.isSome))
def pairD : Dv -> Option (Key × Dv)
 | .tup _ [k, v] => (keyD k).map fun k => (k, v)
 | _ => none
def mergeD (kvs more : List (Key × Dv)) : List (Key × Dv) := more.foldl (fun acc kv => putD acc kv.1 kv.2) kvs
def dDict : Dv -> Option (Bool × Dv)
 | .tup .nod xs => match mapO pairD xs with
  | some kvs => some (true, .dic (mergeD [] kvs))
  | none => none
 | _ => none
def dListRg : Dv -> Option (Bool × Dv)
 | .int j => if 0 <= j /\ j <= 16777216 then some (true, .lst ((List.range j.toNat).map fun (k : Nat) => .int k)) else none
 | _ => none
theorem DenA.ints {Z : Nat -> Prop} {M : Mem} (g : Nat -> Int) : ∀ l : List Nat, DenA Z M (l.map fun k => Vl.int (g k)) (l.map fun k => Dv.int (g k))
 | [] => .nil
 | _ :: l => .cons (.int _) (DenA.ints g l)
theorem r_listRg : Op1R vListRg dListRg := by
 intro Z M v d o r hv h
 unfold dListRg at h
 split at h
 ·split at h
  ·rename_i hc
   cases h; cases hv
   refine ⟨_, by unfold vListRg; simp only [if_pos hc] <;> rfl, .lst ?_⟩
   unfold rng
   simp only [Int.zero_add]
   exact DenA.ints (fun k => (k : Int)) _
  ·cases h
 ·cases h
end Pu
namespace Pu
open PySem PySem.Spec PyProof.Rows L2 NdefX GenE Sh
abbrev Pe := AEnv -> Option (Av × AEnv)
abbrev Pt := AEnv -> Option (Bool × AEnv)
abbrev Pa := AEnv -> Option (List Av × AEnv)
inductive AvRs (n : Nat) (Z : Nat -> Prop) (M : Mem) (ρ : Sh.Env) (a : AEnv) : List Vl -> List Av -> Prop
 | nil : AvRs n Z M ρ a [] []
 | cons {v : Vl} {y : Av} {vs : List Vl} {ys : List Av} : AvR n Z M ρ a v y -> AvRs n Z M ρ a vs ys -> AvRs n Z M ρ a (v :: vs) (y :: ys)
def AE (f : Fe) (p : Pe) : Prop := ∀ (B : Nat) (Z : Nat -> Prop) (M : Mem) (ρ : Sh.Env) (a : AEnv) (y : Av) (a' : AEnv), Inv B Z M ρ a -> p a = some (y, a') -> ∃ v M' Z', f ρ M = some (v, M') /\ Stp B ρ Z M a Z' M' a' /\ AvR M.length Z' M' ρ a' v y
def AT (f : Ft) (p : Pt) : Prop := ∀ (B : Nat) (Z : Nat -> Prop) (M : Mem) (ρ : Sh.Env) (a : AEnv) (y : Bool) (a' : AEnv), Inv B Z M ρ a -> p a = some (y, a') -> ∃ M' Z', f ρ M = some (y, M') /\ Stp B ρ Z M a Z' M' a'
def AA (f : Fa) (p : Pa) : Prop := ∀ (B : Nat) (Z : Nat -> Prop) (M : Mem) (ρ : Sh.Env) (a : AEnv) (y : List Av) (a' : AEnv), Inv B Z M ρ a -> p a = some (y, a') -> ∃ v M' Z', f ρ M = some (v, M') /\ Stp B ρ Z M a Z' M' a' /\ AvRs M.length Z' M' ρ a' v y
section
variable {B n m : Nat} {ρ : Sh.Env} {Z Z1 Z2 : Nat -> Prop} {M M1 M2 : Mem} {a a1 a2 : AEnv}
theorem AvRs.step (i : Inv B Z M ρ a) (s : Stp B ρ Z M a Z1 M1 a1) : ∀ {vs : List Vl} {ys : List Av}, AvRs n Z M ρ a vs ys -> AvRs n Z1 M1 ρ a1 vs ys
 | _, _, .nil => .nil
 | _, _, .cons x y => .cons (x.step i s) (y.step i s)
theorem AvRs.less (h : m <= n) : ∀ {vs : List Vl} {ys : List Av}, AvRs n Z M ρ a vs ys -> AvRs m Z M ρ a vs ys
 | _, _, .nil => .nil
 | _, _, .cons x y => .cons (x.less h) (y.less h)
theorem AvRs.length : ∀ {vs : List Vl} {ys : List Av}, AvRs n Z M ρ a vs ys -> vs.length = ys.length
 | _, _, .nil => rfl
 | _, _, .cons x y => congrArg (· + 1) y.length
theorem Res.go {o : Bool} {d : Dv} {r : Option (Vl × Mem)} (h : Res Z M d r o) (i : Inv B Z M ρ a) : ∃ v M', r = some (v, M') /\ Stp B ρ Z M a Z M' a /\ AvR M.length Z M' ρ a v (.v o d) := by
 cases o with
 | false =>
  obtain ⟨v, e, q⟩ := h
  exact ⟨v, M, e, .refl i, q⟩
 | true =>
  obtain ⟨ob, e, q⟩ := h
  exact ⟨_, _, e, .app i, fresh i q⟩
end
section
variable {f g fa fb fc : Fe} {p q pa pb pc : Pe} {t t' : Ft} {u u' : Pt} {ga : Fa} {ua : Pa}
def pVar (i : Nat) : Pe := fun a => match a[i]? with
 | some (some (.fz d)) => some (.v false d, a)
 | some (some _) => some (.pl i, a)
 | _ => none
theorem ae_var (i : Nat) : AE (eVar i) (pVar i) := by
 intro B Z M ρ a y a' inv h
 unfold pVar at h
 split at h
 ·rename_i d e
  cases h
  obtain ⟨v, hv, r⟩ := inv.at_ i _ e
  exact ⟨v, M, Z, by unfold eVar; rw [hv], .refl inv, r⟩
 ·rename_i s nf e
  cases h
  obtain ⟨v, hv, r⟩ := inv.at_ i _ e
  exact ⟨v, M, Z, by unfold eVar; rw [hv], .refl inv, hv, _, e⟩
 ·cases h
def pC (d : Dv) : Pe := fun a => some (.v false d, a)
theorem ae_c {v : Vl} {d : Dv} (k : ∀ Z M, Den Z M v d) : AE (eC v) (pC d) := by
 intro B Z M ρ a y a' inv h
 cases h
 exact ⟨v, M, Z, rfl, .refl inv, k Z M⟩
/-- the reference k is fixed from now on -/
theorem Stp.freeze {B : Nat} {Z : Nat -> Prop} {M : Mem} {ρ : Sh.Env} {a a' : AEnv} {k : Nat} (inv : Inv B Z M ρ a) (hk : k < M.length) (hz : ¬ Z k)
  (ha : ∀ (j : Nat) (t : Sl), a'[j]? = some (some t) -> (a[j]? = some (some t) /\ ρ[j]? ≠ some (some (.ref k))) \/ (∃ d, t = .fz d /\ a[j]? = some (some (.own d)) /\ ρ[j]? = some (some (.ref k))))
  (hb : ∀ (j : Nat) (s : Sl), a[j]? = some (some s) -> ∃ s', a'[j]? = some (some s') /\ Ch s s') (hl : a'.length = a.length)
  (hle : Mu ρ a k \/ ∀ (j : Nat) (s : Sl), a[j]? = some (some s) -> ρ[j]? ≠ some (some (.ref k))) (n : Nat) (hn : Mu ρ a k \/ n <= k) :
  Inv B (fun j => Z j \/ j = k) M ρ a' /\ ∀ j, j < n -> ¬ Mu ρ a j -> ((Z j \/ j = k) ↔ Z j) := by
 have hz' : ∀ j, Z j -> (Z j \/ j = k) := fun j z => .inl z
 refine ⟨⟨inv.len.trans hl.symm, fun j z => z.elim (inv.dom j) (fun e => e ▸ hk), fun j t e => ?_, fun i j k' s t hne e1 e2 e3 e4 => ?_, fun i d k' e1 e2 => ?_, inv.bM⟩, fun j hj hm => ?_⟩
 ·rcases ha j t e with ⟨e1, e2⟩ | ⟨d, rfl, e1, e2⟩
  ·obtain ⟨v, hv, r⟩ := inv.at_ j t e1
   refine ⟨v, hv, ?_⟩
   cases t with
   | fz d => exact Den.mono hz' (fun _ _ => rfl) r
   | _ =>
    obtain ⟨k1, rfl, nz, o, ho, r⟩ := r
    refine ⟨k1, rfl, fun z => z.elim nz (fun e => e2 (e ▸ hv)), o, ho, r.mono hz' fun _ _ => rfl⟩
  ·obtain ⟨v, hv, k1, rfl, nz, o, ho, r⟩ := inv.at_ j _ e1
   rw [e2] at hv
   cases hv
   exact ⟨_, e2, .ref (.inr rfl) ho (r.mono hz' fun _ _ => rfl)⟩
 ·rcases ha i s e1 with ⟨e1', _⟩ | ⟨d, rfl, _, _⟩
  ·obtain ⟨t0, e4'⟩ : ∃ t0 : Sl, a[j]? = some (some t0) := by
    rcases ha j t e4 with ⟨z, _⟩ | ⟨_, _, z, _⟩
    ·exact ⟨_, z⟩
    ·exact ⟨_, z⟩
   exact inv.sep i j k' s t0 hne e1' e2 e3 e4'
  ·cases e2
 ·rcases ha i _ e1 with ⟨e1', _⟩ | ⟨d', z, _, _⟩
  ·exact inv.base i d k' e1' e2
  ·cases z
 ·refine ⟨fun z => z.elim (fun z => z) fun e => ?_, fun z => .inl z⟩
  subst e
  rcases hn with h | h
  ·exact absurd h hm
  ·omega
/-- a slot's own list, fixed -/
def pFz (i : Nat) : Pe := fun a => match a[i]? with
 | some (some (.fz d)) => some (.v false d, a)
 | some (some (.own d)) => some (.v false d, a.set i (some (.fz d)))
 | _ => none
theorem set_at {a : AEnv} {i : Nat} {s t : Sl} (e : a[i]? = some (some s)) : (a.set i (some t))[i]? = some (some t) := by
 rw [List.getElem?_set_self (List.getElem?_eq_some_iff.mp e).1]
theorem ae_fz (i : Nat) : AE (eVar i) (pFz i) := by
 intro B Z M ρ a y a' inv h
 unfold pFz at h
 split at h
 ·rename_i d e
  cases h
  obtain ⟨v, hv, r⟩ := inv.at_ i _ e
  exact ⟨v, M, Z, by unfold eVar; rw [hv], .refl inv, r⟩
 ·rename_i d e
  cases h
  obtain ⟨v, hv, k, rfl, nz, o, ho, r⟩ := inv.at_ i _ e
  have mu : Mu ρ a k := ⟨i, _, e, rfl, hv⟩
  have hb : ∀ (j : Nat) (s : Sl), a[j]? = some (some s) -> ∃ s', (a.set i (some (.fz d)))[j]? = some (some s') /\ Ch s s' := fun j s es => by
   by_cases hj : i = j
   ·subst hj
    rw [e] at es
    cases es
    exact ⟨_, set_at e, .ownf _ _⟩
   ·exact ⟨s, by rw [List.getElem?_set_ne hj]; exact es, .refl s⟩
  have ha : ∀ (j : Nat) (t : Sl), (a.set i (some (.fz d)))[j]? = some (some t) -> (a[j]? = some (some t) /\ ρ[j]? ≠ some (some (.ref k))) \/ (∃ d, t = .fz d /\ a[j]? = some (some (.own d)) /\ ρ[j]? = some (some (.ref k))) := fun j t es => by
   by_cases hj : i = j
   ·subst hj
    rw [set_at e] at es
    cases es
    exact .inr ⟨d, rfl, e, hv⟩
   ·rw [List.getElem?_set_ne hj] at es
    exact .inl ⟨es, inv.sep i j k _ t hj e rfl hv es⟩
  obtain ⟨i1, l1⟩ := Stp.freeze (a' := a.set i (some (.fz d))) inv (inv.hot mu).2 nz ha hb (by simp) (.inl mu) M.length (.inl mu)
  ·refine ⟨_, M, _, by unfold eVar; rw [hv], ⟨⟨Nat.le_refl _, fun _ _ _ => rfl, l1⟩, i1, hb, fun j t es => ?_⟩, .ref (.inr rfl) ho (r.mono (fun _ z => .inl z) fun _ _ => rfl)⟩
   by_cases hj : i = j
   ·subst hj; exact ⟨_, e⟩
   ·rw [List.getElem?_set_ne hj] at es; exact ⟨_, es⟩
 ·cases h
/-- what an expression gives, to be kept -/
def pK (p : Pe) : Pe := fun a => (p a).bind fun r => match r.1 with
 | .v _ d => some (.v false d, r.2)
 | .pl _ => none
theorem ae_k (h : AE f p) : AE f (pK p) := by
 intro B Z M ρ a y a' inv e
 unfold pK at e
 obtain ⟨⟨x, a1⟩, e1, e⟩ := Option.bind_eq_some_iff.mp e
 obtain ⟨v, M1, Z1, f1, s1, r1⟩ := h _ _ _ _ _ _ _ inv e1
 cases x with
 | pl i => cases e
 | v o d =>
  cases e
  cases o with
  | false => exact ⟨v, M1, Z1, f1, s1, r1⟩
  | true =>
   obtain ⟨k, rfl, hn, ⟨nz, o, ho, r⟩, hs⟩ := r1
   have hk := (List.getElem?_eq_some_iff.mp ho).1
   obtain ⟨i1, l1⟩ := Stp.freeze (a' := a1) s1.inv hk nz (fun j t es => .inl ⟨es, hs j t es⟩) (fun j s es => ⟨s, es, .refl s⟩) rfl (.inr hs) M.length (.inr hn)
   refine ⟨_, M1, _, f1, ⟨⟨s1.le.len, s1.le.keep, fun j hj hm => ?_⟩, i1, s1.ch, s1.back⟩, .ref (.inr rfl) ho (r.mono (fun _ z => .inl z) fun _ _ => rfl)⟩
   have hm1 : ¬ Mu ρ a1 j := fun z => hm (s1.mu z)
   exact (l1 j hj hm1).trans (s1.le.fz j hj hm)
def p1 (dop : Dv -> Option (Bool × Dv)) (p : Pe) : Pe := fun a => (p a).bind fun r => (rd r.2 r.1).bind fun d => (dop d).map fun q => (.v q.1 q.2, r.2)
theorem ae_1 {op : Vl -> Mem -> Option (Vl × Mem)} {dop : Dv -> Option (Bool × Dv)} (ho : Op1R op dop) (h : AE f p) : AE (eA (v1 op) (aCons f aNil)) (p1 dop p) := by
 intro B Z M ρ a y a' inv e
 unfold p1 at e
 obtain ⟨⟨x, a1⟩, e1, e⟩ := Option.bind_eq_some_iff.mp e
 obtain ⟨d, e2, e⟩ := Option.bind_eq_some_iff.mp e
 obtain ⟨⟨o, w⟩, e3, e⟩ := Option.map_eq_some_iff.mp e
 cases e
 obtain ⟨v, M1, Z1, f1, s1, r1⟩ := h _ _ _ _ _ _ _ inv e1
 obtain ⟨v2, M2, f2, s2, r2⟩ := (ho Z1 M1 v d o w (r1.rd s1.inv e2) e3).go s1.inv
 refine ⟨v2, M2, Z1, ?_, s1.trans s2, r2.less s1.le.len⟩
 unfold eA aCons aNil
 rw [f1]
 exact f2
def p2 (dop : Dv -> Dv -> Option (Bool × Dv)) (pa pb : Pe) : Pe := fun a => (pa a).bind fun r => (pb r.2).bind fun s => (rd s.2 r.1).bind fun d => (rd s.2 s.1).bind fun e => (dop d e).map fun q => (.v q.1 q.2, s.2)
theorem ae_2 {op : Vl -> Vl -> Mem -> Option (Vl × Mem)} {dop : Dv -> Dv -> Option (Bool × Dv)} (ho : Op2R op dop) (ha : AE fa pa) (hb : AE fb pb) : AE (e2 op fa fb) (p2 dop pa pb) := by
 intro B Z M ρ a y a' inv e
 unfold p2 at e
 obtain ⟨⟨x, a1⟩, e1, e⟩ := Option.bind_eq_some_iff.mp e
 obtain ⟨⟨y', a2⟩, e2', e⟩ := Option.bind_eq_some_iff.mp e
 obtain ⟨d, e3, e⟩ := Option.bind_eq_some_iff.mp e
 obtain ⟨d', e4, e⟩ := Option.bind_eq_some_iff.mp e
 obtain ⟨⟨o, w⟩, e5, e⟩ := Option.map_eq_some_iff.mp e
 cases e
 obtain ⟨v, M1, Z1, f1, s1, r1⟩ := ha _ _ _ _ _ _ _ inv e1
 obtain ⟨v2, M2, Z2, f2, s2, r2⟩ := hb _ _ _ _ _ _ _ s1.inv e2'
 have r1' := r1.step s1.inv s2
 obtain ⟨v3, M3, f3, s3, r3⟩ := (ho Z2 M2 v v2 d d' o w (r1'.rd s2.inv e3) (r2.rd s2.inv e4) e5).go s2.inv
 refine ⟨v3, M3, Z2, ?_, (s1.trans s2).trans s3, r3.less (Nat.le_trans s1.le.len s2.le.len)⟩
 unfold e2
 rw [f1]
 simp only
 rw [f2]
 exact f3
def p3 (dop dop' : Dv -> Dv -> Option (Bool × Dv)) (pa pb pc : Pe) : Pe := fun a => (pa a).bind fun r => (pb r.2).bind fun s => (rd s.2 r.1).bind fun d => (rd s.2 s.1).bind fun e => (dop d e).bind fun q => match q with
 | (false, .bl true) => (pc s.2).bind fun t => (rd t.2 s.1).bind fun e' => (rd t.2 t.1).bind fun c => (dop' e' c).map fun q => (.v q.1 q.2, t.2)
 | (false, .bl false) => some (.v false (.bl false), s.2)
 | _ => none
theorem ae_3 {op op' : Vl -> Vl -> Mem -> Option (Vl × Mem)} {dop dop' : Dv -> Dv -> Option (Bool × Dv)} (ho : Op2R op dop) (ho' : Op2R op' dop') (ha : AE fa pa) (hb : AE fb pb) (hc : AE fc pc) : AE (e3 op op' fa fb fc) (p3 dop dop' pa pb pc) := by
 intro B Z M ρ a y a' inv e
 unfold p3 at e
 obtain ⟨⟨x, a1⟩, e1, e⟩ := Option.bind_eq_some_iff.mp e
 obtain ⟨⟨y', a2⟩, e2', e⟩ := Option.bind_eq_some_iff.mp e
 obtain ⟨d, e3', e⟩ := Option.bind_eq_some_iff.mp e
 obtain ⟨d', e4, e⟩ := Option.bind_eq_some_iff.mp e
 obtain ⟨⟨o, w⟩, e5, e⟩ := Option.bind_eq_some_iff.mp e
 obtain ⟨v, M1, Z1, f1, s1, r1⟩ := ha _ _ _ _ _ _ _ inv e1
 obtain ⟨v2, M2, Z2, f2, s2, r2⟩ := hb _ _ _ _ _ _ _ s1.inv e2'
 have r1' := r1.step s1.inv s2
 have q := ho Z2 M2 v v2 d d' o w (r1'.rd s2.inv e3') (r2.rd s2.inv e4) e5
 split at e
 ·rename_i hq
  cases hq
  obtain ⟨v3, f3, r3⟩ := q
  have r3' := r3.rd
  cases r3'
  obtain ⟨⟨z, a3⟩, e6, e⟩ := Option.bind_eq_some_iff.mp e
  obtain ⟨d'', e7, e⟩ := Option.bind_eq_some_iff.mp e
  obtain ⟨c, e8, e⟩ := Option.bind_eq_some_iff.mp e
  obtain ⟨⟨o, w⟩, e9, e⟩ := Option.map_eq_some_iff.mp e
  cases e
  obtain ⟨v4, M4, Z4, f4, s4, r4⟩ := hc _ _ _ _ _ _ _ s2.inv e6
  have r2' := r2.step s2.inv s4
  obtain ⟨v5, M5, f5, s5, r5⟩ := (ho' Z4 M4 v2 v4 d'' c o w (r2'.rd s4.inv e7) (r4.rd s4.inv e8) e9).go s4.inv
  refine ⟨v5, M5, Z4, ?_, ((s1.trans s2).trans s4).trans s5, r5.less (Nat.le_trans (Nat.le_trans s1.le.len s2.le.len) s4.le.len)⟩
  simp only [e3, f1, f2, f3, f4]
  exact f5
 ·rename_i hq
  cases hq
  obtain ⟨v3, f3, r3⟩ := q
  have r3' := r3.rd
  cases r3'
  cases e
  refine ⟨.bl false, M2, Z2, ?_, s1.trans s2, .bl _⟩
  simp only [e3, f1, f2, f3]
 ·cases e
def pAnd (p q : Pe) : Pe := fun a => (p a).bind fun r => match rd r.2 r.1 with
 | some (.bl true) => q r.2
 | some (.bl false) => some (.v false (.bl false), r.2)
 | _ => none
theorem ae_and (hp : AE f p) (hq : AE g q) : AE (eAnd f g) (pAnd p q) := by
 intro B Z M ρ a y a' inv e
 unfold pAnd at e
 obtain ⟨⟨x, a1⟩, e1, e⟩ := Option.bind_eq_some_iff.mp e
 obtain ⟨v, M1, Z1, f1, s1, r1⟩ := hp _ _ _ _ _ _ _ inv e1
 split at e
 ·rename_i hr
  have := r1.rd s1.inv hr
  cases this
  obtain ⟨v2, M2, Z2, f2, s2, r2⟩ := hq _ _ _ _ _ _ _ s1.inv e
  exact ⟨v2, M2, Z2, by unfold eAnd; rw [f1]; exact f2, s1.trans s2, r2.less s1.le.len⟩
 ·rename_i hr
  have := r1.rd s1.inv hr
  cases this
  cases e
  exact ⟨_, M1, Z1, by unfold eAnd; rw [f1], s1, .bl _⟩
 ·cases e
def pOr (p q : Pe) : Pe := fun a => (p a).bind fun r => match rd r.2 r.1 with
 | some (.bl false) => q r.2
 | some (.bl true) => some (.v false (.bl true), r.2)
 | _ => none
def pNot (p : Pe) : Pe := fun a => (p a).bind fun r => match rd r.2 r.1 with
 | some (.bl b) => some (.v false (.bl (!b)), r.2)
 | _ => none
def pNeg (p : Pe) : Pe := fun a => (p a).bind fun r => match rd r.2 r.1 with
 | some (.int b) => some (.v false (.int (-b)), r.2)
 | _ => none
theorem ae_neg (hp : AE f p) : AE (eNeg f) (pNeg p) := by
 intro B Z M ρ a y a' inv e
 unfold pNeg at e
 obtain ⟨⟨x, a1⟩, e1, e⟩ := Option.bind_eq_some_iff.mp e
 obtain ⟨v, M1, Z1, f1, s1, r1⟩ := hp _ _ _ _ _ _ _ inv e1
 split at e
 ·rename_i hr
  have := r1.rd s1.inv hr
  cases this
  cases e
  exact ⟨_, M1, Z1, by unfold eNeg; rw [f1], s1, .int _⟩
 ·cases e
def pIsi (T : String) (p : Pe) : Pe := fun a => (p a).bind fun r => (rd r.2 r.1).bind fun d => (tyD d).bind fun t => (kitB t T).map fun b => (.v false (.bl b), r.2)
theorem ae_isi {T : String} (hp : AE f p) : AE (eIsi T f) (pIsi T p) := by
 intro B Z M ρ a y a' inv e
 unfold pIsi at e
 obtain ⟨⟨x, a1⟩, e1, e⟩ := Option.bind_eq_some_iff.mp e
 obtain ⟨d, e2, e⟩ := Option.bind_eq_some_iff.mp e
 obtain ⟨t, e3, e⟩ := Option.bind_eq_some_iff.mp e
 obtain ⟨b, e4, e⟩ := Option.map_eq_some_iff.mp e
 cases e
 obtain ⟨v, M1, Z1, f1, s1, r1⟩ := hp _ _ _ _ _ _ _ inv e1
 refine ⟨_, M1, Z1, ?_, s1, .bl _⟩
 simp only [eIsi, f1, ty_eq (r1.rd s1.inv e2) e3, e4, Option.map_some]
def qV (p : Pe) : Pt := fun a => (p a).bind fun r => match rd r.2 r.1 with
 | some (.bl b) => some (b, r.2)
 | _ => none
theorem at_v (hp : AE f p) : AT (tV f) (qV p) := by
 intro B Z M ρ a y a' inv e
 unfold qV at e
 obtain ⟨⟨x, a1⟩, e1, e⟩ := Option.bind_eq_some_iff.mp e
 obtain ⟨v, M1, Z1, f1, s1, r1⟩ := hp _ _ _ _ _ _ _ inv e1
 split at e
 ·rename_i hr
  have := r1.rd s1.inv hr
  cases this
  cases e
  exact ⟨M1, Z1, by unfold tV; rw [f1], s1⟩
 ·cases e
def qAn (u u' : Pt) : Pt := fun a => (u a).bind fun r => if r.1 = true then u' r.2 else some (false, r.2)
theorem at_and (h : AT t u) (h' : AT t' u') : AT (tAn t t') (qAn u u') := by
 intro B Z M ρ a y a' inv e
 unfold qAn at e
 obtain ⟨⟨x, a1⟩, e1, e⟩ := Option.bind_eq_some_iff.mp e
 obtain ⟨M1, Z1, f1, s1⟩ := h _ _ _ _ _ _ _ inv e1
 cases x with
 | true =>
  obtain ⟨M2, Z2, f2, s2⟩ := h' _ _ _ _ _ _ _ s1.inv e
  exact ⟨M2, Z2, by unfold tAn; rw [f1]; exact f2, s1.trans s2⟩
 | false =>
  cases e
  exact ⟨M1, Z1, by unfold tAn; rw [f1], s1⟩
def qO (u u' : Pt) : Pt := fun a => (u a).bind fun r => if r.1 = true then some (true, r.2) else u' r.2
theorem at_or (h : AT t u) (h' : AT t' u') : AT (tO t t') (qO u u') := by
 intro B Z M ρ a y a' inv e
 unfold qO at e
 obtain ⟨⟨x, a1⟩, e1, e⟩ := Option.bind_eq_some_iff.mp e
 obtain ⟨M1, Z1, f1, s1⟩ := h _ _ _ _ _ _ _ inv e1
 cases x with
 | false =>
  obtain ⟨M2, Z2, f2, s2⟩ := h' _ _ _ _ _ _ _ s1.inv e
  exact ⟨M2, Z2, by unfold tO; rw [f1]; exact f2, s1.trans s2⟩
 | true =>
  cases e
  exact ⟨M1, Z1, by unfold tO; rw [f1], s1⟩
def qN (u : Pt) : Pt := fun a => (u a).map fun r => (!r.1, r.2)
theorem at_not (h : AT t u) : AT (tN t) (qN u) := by
 intro B Z M ρ a y a' inv e
 unfold qN at e
 obtain ⟨⟨x, a1⟩, e1, e⟩ := Option.map_eq_some_iff.mp e
 cases e
 obtain ⟨M1, Z1, f1, s1⟩ := h _ _ _ _ _ _ _ inv e1
 exact ⟨M1, Z1, by unfold tN; rw [f1], s1⟩
def qYs : Pt := fun a => some (true, a)
theorem at_ys : AT tYs qYs := by
 intro B Z M ρ a y a' inv e
 cases e
 exact ⟨M, Z, rfl, .refl inv⟩
def pIf (u : Pt) (p q : Pe) : Pe := fun a => (u a).bind fun r => if r.1 = true then p r.2 else q r.2
theorem ae_if (h : AT t u) (hp : AE f p) (hq : AE g q) : AE (eIf t f g) (pIf u p q) := by
 intro B Z M ρ a y a' inv e
 unfold pIf at e
 obtain ⟨⟨x, a1⟩, e1, e⟩ := Option.bind_eq_some_iff.mp e
 obtain ⟨M1, Z1, f1, s1⟩ := h _ _ _ _ _ _ _ inv e1
 cases x with
 | true =>
  obtain ⟨v2, M2, Z2, f2, s2, r2⟩ := hp _ _ _ _ _ _ _ s1.inv e
  exact ⟨v2, M2, Z2, by unfold eIf; rw [f1]; exact f2, s1.trans s2, r2.less s1.le.len⟩
 | false =>
  obtain ⟨v2, M2, Z2, f2, s2, r2⟩ := hq _ _ _ _ _ _ _ s1.inv e
  exact ⟨v2, M2, Z2, by unfold eIf; rw [f1]; exact f2, s1.trans s2, r2.less s1.le.len⟩
def paNil : Pa := fun a => some ([], a)
def paCons (p : Pe) (u : Pa) : Pa := fun a => (p a).bind fun r => (u r.2).map fun s => (r.1 :: s.1, s.2)
theorem aa_nil : AA aNil paNil := by
 intro B Z M ρ a y a' inv e
 cases e
 exact ⟨[], M, Z, rfl, .refl inv, .nil⟩
theorem aa_cons (hp : AE f p) (ha : AA ga ua) : AA (aCons f ga) (paCons p ua) := by
 intro B Z M ρ a y a' inv e
 unfold paCons at e
 obtain ⟨⟨x, a1⟩, e1, e⟩ := Option.bind_eq_some_iff.mp e
 obtain ⟨⟨xs, a2⟩, e2, e⟩ := Option.map_eq_some_iff.mp e
 cases e
 obtain ⟨v, M1, Z1, f1, s1, r1⟩ := hp _ _ _ _ _ _ _ inv e1
 obtain ⟨vs, M2, Z2, f2, s2, r2⟩ := ha _ _ _ _ _ _ _ s1.inv e2
 exact ⟨v :: vs, M2, Z2, by unfold aCons; rw [f1]; simp only; rw [f2], s1.trans s2, .cons (r1.step s1.inv s2) (r2.less s1.le.len)⟩
def keptD : List Av -> Option (List Dv)
 | [] => some []
 | .v false d :: xs => (keptD xs).map (d :: ·)
 | _ => none
theorem kept_den {n : Nat} {Z : Nat -> Prop} {M : Mem} {ρ : Sh.Env} {a : AEnv} : ∀ {vs : List Vl} {ys : List Av} {ds : List Dv}, AvRs n Z M ρ a vs ys -> keptD ys = some ds -> DenA Z M vs ds
 | _, _, _, .nil, h => by cases h; exact .nil
 | _, _, _, .cons r q, h => by
  unfold keptD at h
  split at h
  ·rename_i e; cases e
  ·rename_i e
   cases e
   obtain ⟨ds, e1, e⟩ := Option.map_eq_some_iff.mp h
   cases e
   exact .cons r (kept_den q e1)
  ·cases h
def pT (u : Pa) : Pe := fun a => (u a).bind fun r => (keptD r.1).bind fun ds => if ds.length <= 1000 then some (.v false (.tup .trk ds), r.2) else none
theorem ae_tup (h : AA ga ua) : AE (eA mkT ga) (pT ua) := by
 intro B Z M ρ a y a' inv e
 unfold pT at e
 obtain ⟨⟨xs, a1⟩, e1, e⟩ := Option.bind_eq_some_iff.mp e
 obtain ⟨ds, e2, e⟩ := Option.bind_eq_some_iff.mp e
 split at e
 ·rename_i hl
  cases e
  obtain ⟨vs, M1, Z1, f1, s1, r1⟩ := h _ _ _ _ _ _ _ inv e1
  have r := kept_den r1 e2
  exact ⟨_, M1, Z1, by unfold eA; rw [f1]; simp only [mkT, r.length, if_pos hl], s1, .tup r⟩
 ·cases e
def pL (u : Pa) : Pe := fun a => (u a).bind fun r => (keptD r.1).bind fun ds => if ds.length <= 1000 then some (.v true (.lst ds), r.2) else none
theorem ae_lst (h : AA ga ua) : AE (eA mkL ga) (pL ua) := by
 intro B Z M ρ a y a' inv e
 unfold pL at e
 obtain ⟨⟨xs, a1⟩, e1, e⟩ := Option.bind_eq_some_iff.mp e
 obtain ⟨ds, e2, e⟩ := Option.bind_eq_some_iff.mp e
 split at e
 ·rename_i hl
  cases e
  obtain ⟨vs, M1, Z1, f1, s1, r1⟩ := h _ _ _ _ _ _ _ inv e1
  have r := kept_den r1 e2
  exact ⟨_, _, Z1, by unfold eA; rw [f1]; simp only [mkL, r.length, if_pos hl], s1.trans (.app s1.inv), (fresh s1.inv (.lst r)).less s1.le.len⟩
 ·cases e
def pMax (p q : Pe) : Pe := p2 (fun x y => match x, y with
 | .int i, .int j => some (false, .int (if j > i then j else i))
 | _, _ => none) p q
theorem ae_max (hp : AE f p) (hq : AE g q) : AE (eA vMax (aCons f (aCons g aNil))) (pMax p q) := by
 have h : Op2R (fun x y M => vMax [x, y] M) (fun x y => match x, y with
  | .int i, .int j => some (false, .int (if j > i then j else i))
  | _, _ => none) := by
  intro Z M v w d e o r hv hw h
  simp only at h
  split at h
  ·cases h; cases hv; cases hw; exact ⟨_, rfl, .int _⟩
  ·cases h
 have q := ae_2 h hp hq
 intro B Z M ρ a y a' inv e
 obtain ⟨v, M1, Z1, f1, s1, r1⟩ := q _ _ _ _ _ _ _ inv e
 refine ⟨v, M1, Z1, ?_, s1, r1⟩
 rw [<- f1]
 unfold eA aCons e2 aNil
 rcases f ρ M with _ | ⟨x, M2⟩
 ·rfl
 ·simp only
  rcases g ρ M2 with _ | ⟨x2, M3⟩ <;> rfl
abbrev Po := AEnv -> Option (Option Int × AEnv)
def AO (f : Fo) (p : Po) : Prop := ∀ (B : Nat) (Z : Nat -> Prop) (M : Mem) (ρ : Sh.Env) (a : AEnv) (y : Option Int) (a' : AEnv), Inv B Z M ρ a -> p a = some (y, a') -> ∃ M' Z', f ρ M = some (y, M') /\ Stp B ρ Z M a Z' M' a'
def poN : Po := fun a => some (none, a)
def poS (p : Pe) : Po := fun a => (p a).bind fun r => match rd r.2 r.1 with
 | some (.int i) => some (some i, r.2)
 | _ => none
theorem ao_none : AO oNone poN := by
 intro B Z M ρ a y a' inv e
 cases e
 exact ⟨M, Z, rfl, .refl inv⟩
theorem ao_some (hp : AE f p) : AO (oSome f) (poS p) := by
 intro B Z M ρ a y a' inv e
 unfold poS at e
 obtain ⟨⟨x, a1⟩, e1, e⟩ := Option.bind_eq_some_iff.mp e
 obtain ⟨v, M1, Z1, f1, s1, r1⟩ := hp _ _ _ _ _ _ _ inv e1
 split at e
 ·rename_i hr
  have := r1.rd s1.inv hr
  cases this
  cases e
  exact ⟨M1, Z1, by unfold oSome; rw [f1], s1⟩
 ·cases e
def pSl (p : Pe) (l h : Po) : Pe := fun a => (p a).bind fun r => (l r.2).bind fun s => (h s.2).bind fun t => (rd t.2 r.1).bind fun d => (dSl d s.1 t.1).map fun q => (.v q.1 q.2, t.2)
theorem ae_sl {l h : Fo} {pl ph : Po} (hp : AE f p) (hl : AO l pl) (hh : AO h ph) : AE (eSl f l h) (pSl p pl ph) := by
 intro B Z M ρ a y a' inv e
 unfold pSl at e
 obtain ⟨⟨x, a1⟩, e1, e⟩ := Option.bind_eq_some_iff.mp e
 obtain ⟨⟨lo, a2⟩, e2, e⟩ := Option.bind_eq_some_iff.mp e
 obtain ⟨⟨hi, a3⟩, e3, e⟩ := Option.bind_eq_some_iff.mp e
 obtain ⟨d, e4, e⟩ := Option.bind_eq_some_iff.mp e
 obtain ⟨⟨o, w⟩, e5, e⟩ := Option.map_eq_some_iff.mp e
 cases e
 obtain ⟨v, M1, Z1, f1, s1, r1⟩ := hp _ _ _ _ _ _ _ inv e1
 obtain ⟨M2, Z2, f2, s2⟩ := hl _ _ _ _ _ _ _ s1.inv e2
 obtain ⟨M3, Z3, f3, s3⟩ := hh _ _ _ _ _ _ _ s2.inv e3
 have r' := (r1.step s1.inv s2).step s2.inv s3
 obtain ⟨v4, M4, f4, s4, r4⟩ := (r_sl (r'.rd s3.inv e4) e5).go s3.inv
 refine ⟨v4, M4, Z3, ?_, ((s1.trans s2).trans s3).trans s4, r4.less (Nat.le_trans (Nat.le_trans s1.le.len s2.le.len) s3.le.len)⟩
 simp only [eSl, f1, f2, f3]
 exact f4
def pRevT (p : Pe) : Pe := fun a => (p a).bind fun r => match rd r.2 r.1 with
 | some (.tup _ xs) => some (.v false (.tup .any xs.reverse), r.2)
 | _ => none
def pDK : Pe := fun a => some (.v true (.dic []), a)
def pDT : Pe := fun a => some (.v true (.dit []), a)
end
end Pu
namespace Pu
open PySem PySem.Spec PyProof.Rows L2 NdefX GenE Sh
def Sl.put : Sl -> Dv -> Sl
 | .fz _, e => .fz e
 | .bw _, e => .bw e
 | .own _, e => .own e
 | .io _, e => .io e
 | .hd _, e => .hd e
def Sl.pin : Sl -> Bool
 | .io _ => true
 | .hd _ => true
 | _ => false
structure StS (B : Nat) (ρ : Sh.Env) (Z : Nat -> Prop) (M : Mem) (a : AEnv) (ρ' : Sh.Env) (Z' : Nat -> Prop) (M' : Mem) (a' : AEnv) : Prop where
 le : Le (Mu ρ a) Z M Z' M'
 inv : Inv B Z' M' ρ' a'
 sub : ∀ k, Mu ρ' a' k -> Mu ρ a k \/ M.length <= k
 al : ∀ (j : Nat) (s' : Sl) (k : Nat), a'[j]? = some (some s') -> ρ'[j]? = some (some (.ref k)) -> k < M.length -> Z' k \/ ∃ s : Sl, a[j]? = some (some s) /\ ρ[j]? = some (some (.ref k))
 pin : ∀ (i : Nat) (s : Sl), a[i]? = some (some s) -> s.pin = true -> ρ'[i]? = ρ[i]? /\ ∃ s' : Sl, a'[i]? = some (some s') /\ Ch s s'
section
variable {B : Nat} {ρ ρ1 ρ2 : Sh.Env} {Z Z1 Z2 : Nat -> Prop} {M M1 M2 : Mem} {a a1 a2 : AEnv}
theorem Stp.st (s : Stp B ρ Z M a Z1 M1 a1) : StS B ρ Z M a ρ Z1 M1 a1 :=
 ⟨s.le, s.inv, fun k m => .inl (s.mu m), fun j s' k e1 e2 _ => .inr (let ⟨t, ht⟩ := s.back j s' e1; ⟨t, ht, e2⟩), fun i t e _ => ⟨rfl, s.ch i t e⟩⟩
theorem StS.refl (h : Inv B Z M ρ a) : StS B ρ Z M a ρ Z M a := (Stp.refl h).st
theorem Ch.pin {s t : Sl} (c : Ch s t) (h : s.pin = true) : t.pin = true := by cases c <;> first | rfl | cases h
theorem StS.trans (x : StS B ρ Z M a ρ1 Z1 M1 a1) (y : StS B ρ1 Z1 M1 a1 ρ2 Z2 M2 a2) : StS B ρ Z M a ρ2 Z2 M2 a2 := by
 have zz := y.le.zz x.inv
 have hl := x.le.len
 refine ⟨x.le.trans y.le x.sub, y.inv, fun k mu => ?_, fun j s' k e1 e2 hk => ?_, fun i s e hp => ?_⟩
 ·rcases y.sub k mu with h | h
  ·exact x.sub k h
  ·exact .inr (by omega)
 ·rcases y.al j s' k e1 e2 (by omega) with h | ⟨s, h1, h2⟩
  ·exact .inl h
  ·rcases x.al j s k h1 h2 hk with h | h
   ·exact .inl (zz k h)
   ·exact .inr h
 ·obtain ⟨h1, s1, h2, c⟩ := x.pin i s e hp
  obtain ⟨h3, s2, h4, c'⟩ := y.pin i s1 h2 (c.pin hp)
  exact ⟨h3.trans h1, s2, h4, c.trans c'⟩
theorem Ch.put {s : Sl} {d : Dv} (h : s.mut = true) : Ch s (s.put d) := by cases s <;> first | constructor | cases h
/-- what a slot has of its own, changed -/
theorem Stp.upd {i k : Nat} {s : Sl} {o : Ob} {d : Dv} (inv : Inv B Z M ρ a) (e : a[i]? = some (some s)) (hm : s.mut = true) (hv : ρ[i]? = some (some (.ref k))) (r : DenO Z M o d) :
  Stp B ρ Z M a Z (M.set k o) (a.set i (some (s.put d))) := by
 have mu : Mu ρ a k := ⟨i, s, e, hm, hv⟩
 obtain ⟨nz, hk⟩ := inv.hot mu
 have mm : ∀ j : Nat, Z j -> (M.set k o)[j]? = M[j]? := fun j z => List.getElem?_set_ne fun (h : k = j) => nz (h.symm ▸ z)
 have hi : ∀ {j t}, (a.set i (some (s.put d)))[j]? = some (some t) -> (j = i /\ t = s.put d) \/ (j ≠ i /\ a[j]? = some (some t)) := fun {j t} es => by
  by_cases hj : i = j
  ·subst hj
   rw [set_at e] at es
   cases es
   exact .inl ⟨rfl, rfl⟩
  ·rw [List.getElem?_set_ne hj] at es
   exact .inr ⟨fun z => hj z.symm, es⟩
 refine ⟨⟨by simp, fun j _ hj => List.getElem?_set_ne fun (h : k = j) => hj (h ▸ mu), fun _ _ _ => Iff.rfl⟩, ⟨by simp [inv.len], fun j z => by simp; exact inv.dom j z, fun j t es => ?_, fun j j' k' t t' hne e1 e2 e3 e4 => ?_, fun j d' k' e1 e2 => ?_, by simp; exact inv.bM⟩, fun j t es => ?_, fun j t es => ?_⟩
 ·rcases hi es with ⟨rfl, rfl⟩ | ⟨hj, es⟩
  ·refine ⟨_, hv, ?_⟩
   have q : Hot Z (M.set k o) k d := ⟨nz, o, List.getElem?_set_self hk, r.mono (fun _ z => z) mm⟩
   cases s <;> first | exact ⟨k, rfl, q⟩ | cases hm
  ·obtain ⟨v, hv', q⟩ := inv.at_ j t es
   refine ⟨v, hv', ?_⟩
   cases t with
   | fz d' => exact Den.mono (fun _ z => z) mm q
   | _ =>
    obtain ⟨k1, rfl, nz1, o1, ho1, r1⟩ := q
    have hne : k ≠ k1 := fun h => inv.sep i j k s _ (fun z => hj z.symm) e hm hv es (h ▸ hv')
    exact ⟨k1, rfl, nz1, o1, (List.getElem?_set_ne hne).trans ho1, r1.mono (fun _ z => z) mm⟩
 ·have q4 : ∃ t0 : Sl, a[j']? = some (some t0) := by
   rcases hi e4 with ⟨rfl, _⟩ | ⟨_, z⟩
   ·exact ⟨s, e⟩
   ·exact ⟨_, z⟩
  obtain ⟨t0, h0⟩ := q4
  rcases hi e1 with ⟨rfl, rfl⟩ | ⟨_, z⟩
  ·exact inv.sep _ j' k' s t0 hne e hm e3 h0
  ·exact inv.sep j j' k' t t0 hne z e2 e3 h0
 ·rcases hi e1 with ⟨rfl, q⟩ | ⟨_, z⟩
  ·cases s with
   | own d0 => exact inv.base _ d0 k' e e2
   | _ => cases q
  ·exact inv.base j d' k' z e2
 ·by_cases hj : i = j
  ·subst hj
   rw [e] at es
   cases es
   exact ⟨_, set_at e, .put hm⟩
  ·exact ⟨t, by rw [List.getElem?_set_ne hj]; exact es, .refl t⟩
 ·rcases hi es with ⟨rfl, _⟩ | ⟨_, z⟩
  ·exact ⟨_, e⟩
  ·exact ⟨_, z⟩
end
section
variable {f g fa fb fc : Fe} {p q pa pb pc : Pe} {t t' : Ft} {u u' : Pt}
/-- the slot i as it may be changed: with a list in it -/
def mutL (a : AEnv) (i : Nat) : Option (Sl × List Dv) := match a[i]? with
 | some (some (.own (.lst xs))) => some (.own (.lst xs), xs)
 | some (some (.io (.lst xs))) => some (.io (.lst xs), xs)
 | _ => none
theorem mutL_some {B : Nat} {ρ : Sh.Env} {Z : Nat -> Prop} {M : Mem} {a : AEnv} {i : Nat} {s : Sl} {xs : List Dv} (inv : Inv B Z M ρ a) (h : mutL a i = some (s, xs)) : a[i]? = some (some s) /\ s.mut = true /\ ∃ k vs, ρ[i]? = some (some (.ref k)) /\ M[k]? = some (.lst vs) /\ DenA Z M vs xs := by
 unfold mutL at h
 split at h
 ·rename_i e
  cases h
  obtain ⟨v, hv, k, rfl, nz, o, ho, r⟩ := inv.at_ i _ e
  cases r with
  | lst r => exact ⟨e, rfl, k, _, hv, ho, r⟩
 ·rename_i e
  cases h
  obtain ⟨v, hv, k, rfl, nz, o, ho, r⟩ := inv.at_ i _ e
  cases r with
  | lst r => exact ⟨e, rfl, k, _, hv, ho, r⟩
 ·cases h
theorem seqAt_lst {M : Mem} {k : Nat} {vs : List Vl} (h : M[k]? = some (.lst vs)) : seqAt M k = some vs := by unfold seqAt; rw [h]; rfl
def pApp (i : Nat) (p : Pe) : Pe := fun a => (mutL a i).bind fun _ => (pK p a).bind fun r => match r.1 with
 | .v false d => (mutL r.2 i).bind fun s => if s.2.length < lim then some (.v false .non, r.2.set i (some (s.1.put (.lst (s.2 ++ [d]))))) else none
 | _ => none
theorem ae_app (i : Nat) (hp : AE f p) : AE (eApp (eVar i) f) (pApp i p) := by
 intro B Z M ρ a y a' inv e
 unfold pApp at e
 obtain ⟨⟨s0, xs0⟩, e0, e⟩ := Option.bind_eq_some_iff.mp e
 obtain ⟨⟨x, a1⟩, e1, e⟩ := Option.bind_eq_some_iff.mp e
 obtain ⟨v, M1, Z1, f1, s1, r1⟩ := (ae_k hp) _ _ _ _ _ _ _ inv e1
 split at e
 ·rename_i d hx
  cases hx
  obtain ⟨⟨s, xs⟩, e2, e⟩ := Option.bind_eq_some_iff.mp e
  split at e
  ·rename_i hl
   cases e
   obtain ⟨h1, h2, k, vs, h3, h4, h5⟩ := mutL_some s1.inv e2
   obtain ⟨_, _, k0, vs0, h3', h4', _⟩ := mutL_some inv e0
   rw [h3] at h3'
   cases h3'
   have rr : DenA Z1 M1 (vs ++ [v]) (xs ++ [d]) := h5.append (.one r1)
   refine ⟨.non, _, Z1, ?_, s1.trans (.upd s1.inv h1 h2 h3 (.lst rr)), .non⟩
   simp only [eApp, eVar, h3, seqAt_lst h4', f1, vApp, h4, h5.length]
   rw [if_pos hl]
  ·cases e
 ·cases e
def pPop (i : Nat) (p : Pe) : Pe := fun a => (mutL a i).bind fun _ => (p a).bind fun r => (rd r.2 r.1).bind fun d => match d with
 | .int j => (mutL r.2 i).bind fun s => (seqIndex? j s.2.length).bind fun n => (s.2[n]?).bind fun x => if -(2 ^ 63) <= j /\ j < 2 ^ 63 then some (.v false x, r.2.set i (some (s.1.put (.lst (s.2.eraseIdx n))))) else none
 | _ => none
theorem ae_pop (i : Nat) (hp : AE f p) : AE (eM1 vPopAt (eVar i) f) (pPop i p) := by
 intro B Z M ρ a y a' inv e
 unfold pPop at e
 obtain ⟨⟨s0, xs0⟩, e0, e⟩ := Option.bind_eq_some_iff.mp e
 obtain ⟨⟨x, a1⟩, e1, e⟩ := Option.bind_eq_some_iff.mp e
 obtain ⟨d, e1', e⟩ := Option.bind_eq_some_iff.mp e
 obtain ⟨v, M1, Z1, f1, s1, r1⟩ := hp _ _ _ _ _ _ _ inv e1
 have r1' := r1.rd s1.inv e1'
 split at e
 ·cases r1'
  obtain ⟨⟨s, xs⟩, e2, e⟩ := Option.bind_eq_some_iff.mp e
  obtain ⟨n, e3, e⟩ := Option.bind_eq_some_iff.mp e
  obtain ⟨x, e4, e⟩ := Option.bind_eq_some_iff.mp e
  split at e
  ·rename_i hl
   cases e
   obtain ⟨h1, h2, k, vs, h3, h4, h5⟩ := mutL_some s1.inv e2
   obtain ⟨_, _, k0, vs0, h3', h4', _⟩ := mutL_some inv e0
   rw [h3] at h3'
   cases h3'
   obtain ⟨v, hv, rv⟩ := h5.get e4
   have s2 := Stp.upd s1.inv h1 h2 h3 (.lst (h5.erase n))
   refine ⟨v, _, Z1, ?_, s1.trans s2, Den.mono (s2.le.zz s1.inv) (s2.le.mm s1.inv) rv⟩
   simp only [eM1, eVar, h3, seqAt_lst h4', f1, vPopAt, h4, h5.length]
   simp only at e3
   rw [e3]
   simp only [hv]
   rw [if_pos hl]
  ·cases e
 ·cases e
def pExt (i : Nat) (p : Pe) : Pe := fun a => (mutL a i).bind fun _ => (p a).bind fun r => (rd r.2 r.1).bind fun d => match d with
 | .lst ys => (mutL r.2 i).bind fun s => if s.2.length + ys.length <= lim then some (.v false .non, r.2.set i (some (s.1.put (.lst (s.2 ++ ys))))) else none
 | _ => none
abbrev Pg := Dv -> AEnv -> Option AEnv
abbrev Pgs := List Dv -> AEnv -> Option AEnv
def AG (g : Fg) (p : Pg) : Prop := ∀ (B : Nat) (Z : Nat -> Prop) (M : Mem) (ρ : Sh.Env) (a : AEnv) (v : Vl) (d : Dv) (a' : AEnv), Inv B Z M ρ a -> Den Z M v d -> p d a = some a' -> ∃ ρ' M' Z', g v ρ M = some (ρ', M') /\ StS B ρ Z M a ρ' Z' M' a'
def AGs (g : Fgs) (p : Pgs) : Prop := ∀ (B : Nat) (Z : Nat -> Prop) (M : Mem) (ρ : Sh.Env) (a : AEnv) (v : List Vl) (d : List Dv) (a' : AEnv), Inv B Z M ρ a -> DenA Z M v d -> p d a = some a' -> ∃ ρ' M' Z', g v ρ M = some (ρ', M') /\ StS B ρ Z M a ρ' Z' M' a'
def freeB (a : AEnv) (i : Nat) : Bool := match a[i]? with
 | some (some s) => !s.pin
 | _ => true
def pgN (i : Nat) : Pg := fun d a => if freeB a i = true then some (a.set i (some (.fz d))) else none
theorem set_get {α : Type} {l : List (Option α)} {i j : Nat} {x y : α} (h : (l.set i (some x))[j]? = some (some y)) : (j = i /\ y = x) \/ (j ≠ i /\ l[j]? = some (some y)) := by
 by_cases hj : i = j
 ·subst hj
  rw [List.getElem?_set] at h
  simp at h
  exact .inl ⟨rfl, h.2.symm⟩
 ·rw [List.getElem?_set_ne hj] at h
  exact .inr ⟨fun z => hj z.symm, h⟩
/-- a slot is given something new -/
theorem StS.give {B : Nat} {Z : Nat -> Prop} {M : Mem} {ρ : Sh.Env} {a : AEnv} {i : Nat} {v : Vl} {s : Sl} (inv : Inv B Z M ρ a) (hf : freeB a i = true) (r : SlR Z M v s) (hp : (∃ d, s = .fz d) \/ ∃ d, s = .own d)
  (hs : s.mut = true -> ∀ k, v = .ref k -> (∀ (j : Nat) (t : Sl), a[j]? = some (some t) -> ρ[j]? ≠ some (some (.ref k))) /\ B <= k) (n : Nat) (hn : ∀ k, v = .ref k -> Z k \/ n <= k) :
  Inv B Z M (ρ.set i (some v)) (a.set i (some s)) /\ (∀ k, Mu (ρ.set i (some v)) (a.set i (some s)) k -> Mu ρ a k \/ n <= k) /\
  (∀ (j : Nat) (s' : Sl) (k : Nat), (a.set i (some s))[j]? = some (some s') -> (ρ.set i (some v))[j]? = some (some (.ref k)) -> k < n -> Z k \/ ∃ s : Sl, a[j]? = some (some s) /\ ρ[j]? = some (some (.ref k))) /\
  (∀ (j : Nat) (t : Sl), a[j]? = some (some t) -> t.pin = true -> (ρ.set i (some v))[j]? = ρ[j]? /\ ∃ s' : Sl, (a.set i (some s))[j]? = some (some s') /\ Ch t s') := by
 have fzz : s.mut = false -> ∀ k, v = .ref k -> Z k := fun hm k hk => by
  subst hk
  rcases hp with ⟨d, rfl⟩ | ⟨d, rfl⟩
  ·cases r with
   | ref z _ _ => exact z
  ·cases hm
 have hot0 : s.mut = true -> ∀ k, v = .ref k -> ¬ Z k := fun hm k hk => by
  subst hk
  rcases hp with ⟨d, rfl⟩ | ⟨d, rfl⟩
  ·cases hm
  ·obtain ⟨k', e, nz, _⟩ := r; cases e; exact nz
 refine ⟨⟨by simp [inv.len], inv.dom, fun j t e => ?_, fun j j' k t t' hne e1 e2 e3 e4 => ?_, fun j d k e1 e2 => ?_, inv.bM⟩, fun k mu => ?_, fun j s' k e1 e2 hk => ?_, fun j t e ht => ?_⟩
 ·rcases set_get e with ⟨rfl, rfl⟩ | ⟨hj, e'⟩
  ·refine ⟨v, ?_, r⟩
   have := (List.getElem?_eq_some_iff.mp e).1
   rw [List.getElem?_set_self (by simp at this; rw [inv.len]; exact this)]
  ·obtain ⟨v', hv', q⟩ := inv.at_ j t e'
   exact ⟨v', by rw [List.getElem?_set_ne fun z => hj z.symm]; exact hv', q⟩
 ·intro c
  rcases set_get e1 with ⟨rfl, rfl⟩ | ⟨hj, e1'⟩
  ·rcases set_get e3 with ⟨_, hk⟩ | ⟨z, _⟩
   ·rcases set_get e4 with ⟨z, _⟩ | ⟨hj', e4'⟩
    ·exact hne z.symm
    ·rw [List.getElem?_set_ne fun z => hj' z.symm] at c
     exact (hs e2 k hk.symm).1 j' t' e4' c
   ·exact z rfl
  ·rw [List.getElem?_set_ne fun z => hj z.symm] at e3
   rcases set_get e4 with ⟨rfl, rfl⟩ | ⟨hj', e4'⟩
   ·rcases set_get c with ⟨_, hk⟩ | ⟨z, _⟩
    ·have hot := inv.hot ⟨j, t, e1', e2, e3⟩
     cases hm : t'.mut with
     | true => exact (hs hm k hk.symm).1 j t e1' e3
     | false => exact hot.1 (fzz hm k hk.symm)
    ·exact z rfl
   ·rw [List.getElem?_set_ne fun z => hj' z.symm] at c
    exact inv.sep j j' k t t' hne e1' e2 e3 e4' c
 ·rcases set_get e1 with ⟨rfl, rfl⟩ | ⟨hj, e1'⟩
  ·rcases set_get e2 with ⟨_, hk⟩ | ⟨z, _⟩
   ·exact (hs rfl k hk.symm).2
   ·exact absurd rfl z
  ·rw [List.getElem?_set_ne fun z => hj z.symm] at e2
   exact inv.base j d k e1' e2
 ·obtain ⟨j, t, h1, h2, h3⟩ := mu
  rcases set_get h1 with ⟨rfl, rfl⟩ | ⟨hj, h1'⟩
  ·rcases set_get h3 with ⟨_, hk⟩ | ⟨z, _⟩
   ·rcases hn k hk.symm with z | z
    ·exact absurd z (hot0 h2 k hk.symm)
    ·exact .inr z
   ·exact absurd rfl z
  ·rw [List.getElem?_set_ne fun z => hj z.symm] at h3
   exact .inl ⟨j, t, h1', h2, h3⟩
 ·rcases set_get e1 with ⟨rfl, rfl⟩ | ⟨hj, e1'⟩
  ·rcases set_get e2 with ⟨_, h⟩ | ⟨z, _⟩
   ·rcases hn k h.symm with z | z
    ·exact .inl z
    ·omega
   ·exact absurd rfl z
  ·rw [List.getElem?_set_ne fun z => hj z.symm] at e2
   exact .inr ⟨s', e1', e2⟩
 ·have hj : i ≠ j := fun z => by
   subst z
   unfold freeB at hf
   rw [e] at hf
   simp [ht] at hf
  exact ⟨List.getElem?_set_ne hj, t, by rw [List.getElem?_set_ne hj]; exact e, .refl t⟩
theorem ag_n (i : Nat) : AG (gN i) (pgN i) := by
 intro B Z M ρ a v d a' inv r e
 unfold pgN at e
 split at e
 ·rename_i hf
  cases e
  obtain ⟨h1, h2, h3, h4⟩ := StS.give (s := .fz d) inv hf r (.inl ⟨d, rfl⟩) (fun h => by cases h) M.length (fun k hk => .inl (by subst hk; cases r with | ref z _ _ => exact z))
  exact ⟨_, M, Z, rfl, ⟨Le.refl, h1, h2, h3, h4⟩⟩
 ·cases e
def pgsNil : Pgs := fun ds a => match ds with
 | [] => some a
 | _ => none
def pgsCons (g : Pg) (gs : Pgs) : Pgs := fun ds a => match ds with
 | d :: r => (g d a).bind fun a1 => gs r a1
 | [] => none
def pgT (n : Nat) (gs : Pgs) : Pg := fun d a => match d with
 | .tup _ xs => if xs.length = n then gs xs a else none
 | _ => none
theorem ags_nil : AGs gsNil pgsNil := by
 intro B Z M ρ a v d a' inv r e
 cases r with
 | nil => cases e; exact ⟨ρ, M, Z, rfl, .refl inv⟩
 | cons _ _ => cases e
theorem ags_cons {g : Fg} {gs : Fgs} {pg : Pg} {pgs : Pgs} (h : AG g pg) (hs : AGs gs pgs) : AGs (gsCons g gs) (pgsCons pg pgs) := by
 intro B Z M ρ a v d a' inv r e
 cases r with
 | nil => cases e
 | cons r1 r2 =>
  obtain ⟨a1, e1, e⟩ := Option.bind_eq_some_iff.mp e
  obtain ⟨ρ1, M1, Z1, f1, s1⟩ := h _ _ _ _ _ _ _ _ inv r1 e1
  obtain ⟨ρ2, M2, Z2, f2, s2⟩ := hs _ _ _ _ _ _ _ _ s1.inv (r2.mono (s1.le.zz inv) (s1.le.mm inv)) e
  exact ⟨ρ2, M2, Z2, by simp only [gsCons, f1]; exact f2, s1.trans s2⟩
theorem ag_t {n : Nat} {gs : Fgs} {pgs : Pgs} (hs : AGs gs pgs) : AG (gT n gs) (pgT n pgs) := by
 intro B Z M ρ a v d a' inv r e
 unfold pgT at e
 split at e
 ·split at e
  ·rename_i hl
   obtain ⟨xs, rfl, ra⟩ := r.rd
   obtain ⟨ρ2, M2, Z2, f2, s2⟩ := hs _ _ _ _ _ _ _ _ inv ra e
   exact ⟨ρ2, M2, Z2, by simp only [gT, ra.length, hl, if_true]; exact f2, s2⟩
  ·cases e
 ·cases e
/-- x[j] = what is fixed -/
def pgSb (i : Nat) (p : Pe) : Pg := fun d a => (mutL a i).bind fun _ => (p a).bind fun r => (rd r.2 r.1).bind fun e => match e with
 | .int j => (mutL r.2 i).bind fun s => (ixN s.2.length j).map fun n => r.2.set i (some (s.1.put (.lst (s.2.set n d))))
 | _ => none
theorem ag_sb (i : Nat) (hp : AE f p) : AG (gSb (eVar i) f) (pgSb i p) := by
 intro B Z M ρ a v d a' inv r e
 unfold pgSb at e
 obtain ⟨⟨s0, xs0⟩, e0, e⟩ := Option.bind_eq_some_iff.mp e
 obtain ⟨⟨x, a1⟩, e1, e⟩ := Option.bind_eq_some_iff.mp e
 obtain ⟨w, e1', e⟩ := Option.bind_eq_some_iff.mp e
 obtain ⟨v1, M1, Z1, f1, s1, r1⟩ := hp _ _ _ _ _ _ _ inv e1
 have r1' := r1.rd s1.inv e1'
 split at e
 ·cases r1'
  obtain ⟨⟨s, xs⟩, e2, e⟩ := Option.bind_eq_some_iff.mp e
  obtain ⟨n, e3, e⟩ := Option.map_eq_some_iff.mp e
  cases e
  obtain ⟨h1, h2, k, vs, h3, h4, h5⟩ := mutL_some s1.inv e2
  have rr := r.mono (s1.le.zz inv) (s1.le.mm inv)
  have s2 := Stp.upd s1.inv h1 h2 h3 (.lst (h5.set (i := n) rr))
  refine ⟨ρ, _, Z1, ?_, (s1.trans s2).st⟩
  simp only at e3
  simp only [gSb, eVar, h3, f1, h4, h5.length, e3]
 ·cases e
inductive AOut where
 | nx | bk | ct | rt (o : Bool) (d : Dv)
abbrev Ps := AEnv -> Option (AOut × AEnv)
def OutR (B : Nat) (Z : Nat -> Prop) (M : Mem) : AOut -> Out -> Prop
 | .nx, .nx => True
 | .bk, .bk => True
 | .ct, .ct => True
 | .rt false d, .rt v => Den Z M v d
 | .rt true d, .rt v => ∃ k, v = .ref k /\ B <= k /\ Hot Z M k d
 | _, _ => False
def AS (f : Fs) (p : Ps) : Prop := ∀ (B : Nat) (Z : Nat -> Prop) (M : Mem) (ρ : Sh.Env) (a : AEnv) (y : AOut) (a' : AEnv), Inv B Z M ρ a -> p a = some (y, a') -> ∃ o ρ' M' Z', f ρ M = some (o, ρ', M') /\ StS B ρ Z M a ρ' Z' M' a' /\ OutR B Z' M' y o
def zNil : Ps := fun a => some (.nx, a)
theorem as_nil : AS sNil zNil := by
 intro B Z M ρ a y a' inv e
 cases e
 exact ⟨.nx, ρ, M, Z, rfl, .refl inv, trivial⟩
def zCons (p q : Ps) : Ps := fun a => (p a).bind fun r => match r.1 with
 | .nx => q r.2
 | o => some (o, r.2)
theorem as_cons {s s' : Fs} {z z' : Ps} (h : AS s z) (h' : AS s' z') : AS (sCons s s') (zCons z z') := by
 intro B Z M ρ a y a' inv e
 unfold zCons at e
 obtain ⟨⟨x, a1⟩, e1, e⟩ := Option.bind_eq_some_iff.mp e
 obtain ⟨o, ρ1, M1, Z1, f1, s1, r1⟩ := h _ _ _ _ _ _ _ inv e1
 cases x with
 | nx =>
  cases o with
  | nx =>
   obtain ⟨o2, ρ2, M2, Z2, f2, s2, r2⟩ := h' _ _ _ _ _ _ _ s1.inv e
   exact ⟨o2, ρ2, M2, Z2, by simp only [sCons, f1]; exact f2, s1.trans s2, r2⟩
  | _ => cases r1
 | bk =>
  cases e
  cases o with
  | bk => exact ⟨.bk, ρ1, M1, Z1, by simp only [sCons, f1], s1, trivial⟩
  | _ => cases r1
 | ct =>
  cases e
  cases o with
  | ct => exact ⟨.ct, ρ1, M1, Z1, by simp only [sCons, f1], s1, trivial⟩
  | _ => cases r1
 | rt ow d =>
  cases e
  cases o with
  | rt v => exact ⟨.rt v, ρ1, M1, Z1, by simp only [sCons, f1], s1, r1⟩
  | _ => cases ow <;> cases r1
def zIf (u : Pt) (p q : Ps) : Ps := fun a => (u a).bind fun r => if r.1 = true then p r.2 else q r.2
theorem as_if {s s' : Fs} {z z' : Ps} (ht : AT t u) (h : AS s z) (h' : AS s' z') : AS (sIf t s s') (zIf u z z') := by
 intro B Z M ρ a y a' inv e
 unfold zIf at e
 obtain ⟨⟨x, a1⟩, e1, e⟩ := Option.bind_eq_some_iff.mp e
 obtain ⟨M1, Z1, f1, s1⟩ := ht _ _ _ _ _ _ _ inv e1
 cases x with
 | true =>
  obtain ⟨o2, ρ2, M2, Z2, f2, s2, r2⟩ := h _ _ _ _ _ _ _ s1.inv e
  exact ⟨o2, ρ2, M2, Z2, by simp only [sIf, f1]; exact f2, s1.st.trans s2, r2⟩
 | false =>
  obtain ⟨o2, ρ2, M2, Z2, f2, s2, r2⟩ := h' _ _ _ _ _ _ _ s1.inv e
  exact ⟨o2, ρ2, M2, Z2, by simp only [sIf, f1]; exact f2, s1.st.trans s2, r2⟩
def zRet (p : Pe) : Ps := fun a => (p a).bind fun r => match r.1 with
 | .v o d => some (.rt o d, r.2)
 | .pl _ => none
theorem as_ret (h : AE f p) : AS (sRet f) (zRet p) := by
 intro B Z M ρ a y a' inv e
 unfold zRet at e
 obtain ⟨⟨x, a1⟩, e1, e⟩ := Option.bind_eq_some_iff.mp e
 obtain ⟨v, M1, Z1, f1, s1, r1⟩ := h _ _ _ _ _ _ _ inv e1
 cases x with
 | pl i => cases e
 | v o d =>
  cases e
  refine ⟨.rt v, ρ, M1, Z1, by simp only [sRet, f1], s1.st, ?_⟩
  cases o with
  | false => exact r1
  | true =>
   obtain ⟨k, rfl, hn, hot, _⟩ := r1
   exact ⟨k, rfl, Nat.le_trans inv.bM hn, hot⟩
/-- a slot's own list is given back -/
def zRetV (i : Nat) : Ps := fun a => match a[i]? with
 | some (some (.fz d)) => some (.rt false d, a)
 | some (some (.own d)) => some (.rt true d, a)
 | _ => none
theorem as_retV (i : Nat) : AS (sRet (eVar i)) (zRetV i) := by
 intro B Z M ρ a y a' inv e
 unfold zRetV at e
 split at e
 ·rename_i d h
  cases e
  obtain ⟨v, hv, r⟩ := inv.at_ i _ h
  exact ⟨.rt v, ρ, M, Z, by simp only [sRet, eVar, hv], .refl inv, r⟩
 ·rename_i d h
  cases e
  obtain ⟨v, hv, k, rfl, hot⟩ := inv.at_ i _ h
  exact ⟨.rt (.ref k), ρ, M, Z, by simp only [sRet, eVar, hv], .refl inv, k, rfl, inv.base i d k h hv, hot⟩
 ·cases e
def zEx (p : Pe) : Ps := fun a => (p a).map fun r => (.nx, r.2)
theorem as_ex (h : AE f p) : AS (sEx f) (zEx p) := by
 intro B Z M ρ a y a' inv e
 unfold zEx at e
 obtain ⟨⟨x, a1⟩, e1, e⟩ := Option.map_eq_some_iff.mp e
 cases e
 obtain ⟨v, M1, Z1, f1, s1, r1⟩ := h _ _ _ _ _ _ _ inv e1
 exact ⟨.nx, ρ, M1, Z1, by simp only [sEx, f1], s1.st, trivial⟩
def zSet (i : Nat) (p : Pe) : Ps := fun a => (p a).bind fun r => match r.1 with
 | .v o d => if freeB r.2 i = true then some (.nx, r.2.set i (some (if o = true then .own d else .fz d))) else none
 | .pl _ => none
theorem as_set (i : Nat) (h : AE f p) : AS (sAsg f (gN i)) (zSet i p) := by
 intro B Z M ρ a y a' inv e
 unfold zSet at e
 obtain ⟨⟨x, a1⟩, e1, e⟩ := Option.bind_eq_some_iff.mp e
 obtain ⟨v, M1, Z1, f1, s1, r1⟩ := h _ _ _ _ _ _ _ inv e1
 cases x with
 | pl i => cases e
 | v o d =>
  simp only at e
  split at e
  ·rename_i hf
   cases e
   have hmid : Le (Mu ρ a) Z M Z1 M1 := s1.le
   cases o with
   | false =>
    obtain ⟨h1, h2, h3, h4⟩ := StS.give (s := .fz d) s1.inv hf r1 (.inl ⟨d, rfl⟩) (fun h => by cases h) M1.length (fun k hk => .inl (by subst hk; cases r1 with | ref z _ _ => exact z))
    exact ⟨.nx, _, M1, Z1, by simp only [sAsg, f1, gN], s1.st.trans ⟨Le.refl, h1, h2, h3, h4⟩, trivial⟩
   | true =>
    obtain ⟨k, rfl, hn, hot, hs⟩ := r1
    obtain ⟨h1, h2, h3, h4⟩ := StS.give (s := .own d) (v := .ref k) s1.inv hf ⟨k, rfl, hot⟩ (.inr ⟨d, rfl⟩) (fun _ k' e => by cases e; exact ⟨hs, Nat.le_trans inv.bM hn⟩) M.length (fun k' e => by cases e; exact .inr hn)
    refine ⟨.nx, _, M1, Z1, by simp only [sAsg, f1, gN], ⟨hmid, h1, fun j m => (h2 j m).imp_left s1.mu, fun j s' k' e1 e2 hk => ?_, fun j t e ht => ?_⟩, trivial⟩
    ·rcases h3 j s' k' e1 e2 hk with z | ⟨t, z1, z2⟩
     ·exact .inl z
     ·obtain ⟨t0, ht0⟩ := s1.back j t z1
      exact .inr ⟨t0, ht0, z2⟩
    ·obtain ⟨t1, z1, c1⟩ := s1.ch j t e
     obtain ⟨w1, t2, w2, c2⟩ := h4 j t1 z1 (c1.pin ht)
     exact ⟨w1, t2, w2, c1.trans c2⟩
  ·cases e
def zAsg (p : Pe) (g : Pg) : Ps := fun a => (pK p a).bind fun r => match r.1 with
 | .v false d => (g d r.2).map fun a' => (.nx, a')
 | _ => none
theorem as_asg {g : Fg} {pg : Pg} (h : AE f p) (hg : AG g pg) : AS (sAsg f g) (zAsg p pg) := by
 intro B Z M ρ a y a' inv e
 unfold zAsg at e
 obtain ⟨⟨x, a1⟩, e1, e⟩ := Option.bind_eq_some_iff.mp e
 obtain ⟨v, M1, Z1, f1, s1, r1⟩ := (ae_k h) _ _ _ _ _ _ _ inv e1
 split at e
 ·rename_i d hx
  cases hx
  obtain ⟨a2, e2, e⟩ := Option.map_eq_some_iff.mp e
  cases e
  obtain ⟨ρ2, M2, Z2, f2, s2⟩ := hg _ _ _ _ _ _ _ _ s1.inv r1 e2
  exact ⟨.nx, ρ2, M2, Z2, by simp only [sAsg, f1, f2], s1.st.trans s2, trivial⟩
 ·cases e
/-- d[k] = v -/
def zDput (i : Nat) (pk pv : Pe) : Ps := fun a => (pK pv a).bind fun r => match r.1 with
 | .v false v => (pk r.2).bind fun s => (rd s.2 s.1).bind fun y => match s.2[i]? with
  | some (some (.own (.dic kvs))) => (keyD y).bind fun k => if kvs.length < lim then some (.nx, s.2.set i (some (.own (.dic (putD kvs k v))))) else none
  | some (some (.own (.dit kvs))) => (tkeyD y).bind fun k => if kvs.length < lim then some (.nx, s.2.set i (some (.own (.dit (putD kvs k v))))) else none
  | _ => none
 | _ => none
def whileA (t : Pt) (body : Ps) : Nat -> AEnv -> Option (AOut × AEnv)
 | 0, _ => none
 | n + 1, a => (t a).bind fun r => if r.1 = true then (body r.2).bind fun s => match s.1 with
     | .nx => whileA t body n s.2
     | .ct => whileA t body n s.2
     | .bk => some (.nx, s.2)
     | .rt o d => some (.rt o d, s.2)
  else some (.nx, r.2)
def zWhile (t : Pt) (body : Ps) : Ps := fun a => whileA t body fuel a
theorem as_while {s : Fs} {z : Ps} (ht : AT t u) (h : AS s z) : AS (sWhile t s) (zWhile u z) := by
 have main : ∀ (n : Nat) (B : Nat) (Z : Nat -> Prop) (M : Mem) (ρ : Sh.Env) (a : AEnv) (y : AOut) (a' : AEnv), Inv B Z M ρ a -> whileA u z n a = some (y, a') -> ∃ o ρ' M' Z', whileL t s n ρ M = some (o, ρ', M') /\ StS B ρ Z M a ρ' Z' M' a' /\ OutR B Z' M' y o := by
  intro n
  induction n with
  | zero => intro B Z M ρ a y a' inv e; cases e
  | succ n ih =>
   intro B Z M ρ a y a' inv e
   unfold whileA at e
   obtain ⟨⟨x, a1⟩, e1, e⟩ := Option.bind_eq_some_iff.mp e
   obtain ⟨M1, Z1, f1, s1⟩ := ht _ _ _ _ _ _ _ inv e1
   cases x with
   | false =>
    cases e
    exact ⟨.nx, ρ, M1, Z1, by simp only [whileL, f1], s1.st, trivial⟩
   | true =>
    obtain ⟨⟨x2, a2⟩, e2, e⟩ := Option.bind_eq_some_iff.mp e
    obtain ⟨o, ρ2, M2, Z2, f2, s2, r2⟩ := h _ _ _ _ _ _ _ s1.inv e2
    have s12 := s1.st.trans s2
    cases x2 with
    | nx =>
     cases o with
     | nx =>
      obtain ⟨o3, ρ3, M3, Z3, f3, s3, r3⟩ := ih _ _ _ _ _ _ _ s2.inv e
      exact ⟨o3, ρ3, M3, Z3, by simp only [whileL, f1, f2]; exact f3, s12.trans s3, r3⟩
     | _ => cases r2
    | ct =>
     cases o with
     | ct =>
      obtain ⟨o3, ρ3, M3, Z3, f3, s3, r3⟩ := ih _ _ _ _ _ _ _ s2.inv e
      exact ⟨o3, ρ3, M3, Z3, by simp only [whileL, f1, f2]; exact f3, s12.trans s3, r3⟩
     | _ => cases r2
    | bk =>
     cases e
     cases o with
     | bk => exact ⟨.nx, ρ2, M2, Z2, by simp only [whileL, f1, f2], s12, trivial⟩
     | _ => cases r2
    | rt ow d =>
     cases e
     cases o with
     | rt v => exact ⟨.rt v, ρ2, M2, Z2, by simp only [whileL, f1, f2], s12, r2⟩
     | _ => cases ow <;> cases r2
 exact main fuel
end
end Pu
namespace Pu
open PySem PySem.Spec PyProof.Rows L2 NdefX GenE Sh
abbrev Pi := AEnv -> Option (List Dv × Option (Nat × Sl) × AEnv)
def SrcR (ρ : Sh.Env) (a : AEnv) (Z : Nat -> Prop) (M : Mem) (src : Src) (ds : List Dv) : Prop := ∃ (K : Option Nat) (xs : List Vl), (∀ k, K = some k -> k < M.length /\ ¬ Mu ρ a k) /\ DenA Z M xs ds /\ ∀ M' : Mem, (∀ k, K = some k -> M'[k]? = M[k]?) -> src M' = some xs
/-- the env by itself, and as it is held -/
def HoldR (a1 a' : AEnv) : Option (Nat × Sl) -> Prop
 | none => a' = a1
 | some (i, s) => a1[i]? = some (some s) /\ s.mut = true /\ a' = a1.set i (some (.hd s.val))
def AI (f : Fi) (p : Pi) : Prop := ∀ (B : Nat) (Z : Nat -> Prop) (M : Mem) (ρ : Sh.Env) (a : AEnv) (ds : List Dv) (h : Option (Nat × Sl)) (a' : AEnv), Inv B Z M ρ a -> p a = some (ds, h, a') -> ∃ src n M' Z' a1, f ρ M = some (src, n, M') /\ Stp B ρ Z M a Z' M' a1 /\ HoldR a1 a' h /\ ds.length <= n /\ SrcR ρ a' Z' M' src ds
def unhold (a : AEnv) : Option (Nat × Sl) -> AEnv
 | none => a
 | some (i, s) => a.set i (some s)
section
variable {B : Nat} {ρ ρ1 ρ2 : Sh.Env} {Z Z1 Z2 : Nat -> Prop} {M M1 M2 : Mem} {a a1 a2 a' : AEnv} {h : Option (Nat × Sl)}
theorem HoldR.mu (r : HoldR a1 a' h) {k : Nat} (m : Mu ρ a' k) : Mu ρ a1 k := by
 rcases h with _ | ⟨i, s⟩
 ·cases r; exact m
 ·obtain ⟨e, hm, rfl⟩ := r
  obtain ⟨j, t, h1, h2, h3⟩ := m
  rcases set_get h1 with ⟨rfl, rfl⟩ | ⟨_, h1⟩
  ·cases h2
  ·exact ⟨j, t, h1, h2, h3⟩
theorem HoldR.live (r : HoldR a1 a' h) {j : Nat} {t : Sl} (e : a'[j]? = some (some t)) : ∃ t', a1[j]? = some (some t') := by
 rcases h with _ | ⟨i, s⟩
 ·cases r; exact ⟨t, e⟩
 ·obtain ⟨e', hm, rfl⟩ := r
  rcases set_get e with ⟨rfl, rfl⟩ | ⟨_, h1⟩
  ·exact ⟨_, e'⟩
  ·exact ⟨_, h1⟩
theorem HoldR.inv (inv : Inv B Z M ρ a1) (r : HoldR a1 a' h) : Inv B Z M ρ a' := by
 rcases h with _ | ⟨i, s⟩
 ·cases r; exact inv
 ·have r0 := r
  obtain ⟨e, hm, rfl⟩ := r
  refine ⟨by simp [inv.len], inv.dom, fun j t e' => ?_, fun j j' k t t' hne e1 e2 e3 e4 => ?_, fun j d k e1 e2 => ?_, inv.bM⟩
  ·rcases set_get e' with ⟨rfl, rfl⟩ | ⟨_, h1⟩
   ·obtain ⟨v, hv, q⟩ := inv.at_ _ s e
    refine ⟨v, hv, ?_⟩
    cases s <;> first | exact q | cases hm
   ·exact inv.at_ j t h1
  ·obtain ⟨t0, h0⟩ := r0.live e4
   rcases set_get e1 with ⟨rfl, rfl⟩ | ⟨_, h1⟩
   ·cases e2
   ·exact inv.sep j j' k t t0 hne h1 e2 e3 h0
  ·rcases set_get e1 with ⟨_, z⟩ | ⟨_, h1⟩
   ·cases z
   ·exact inv.base j d k h1 e2
/-- what was held is given back -/
theorem StS.unhold (inv : Inv B Z M ρ a1) (r : HoldR a1 a' h) (x : StS B ρ Z M a' ρ2 Z2 M2 a2) : StS B ρ Z M a1 ρ2 Z2 M2 (Pu.unhold a2 h) := by
 rcases h with _ | ⟨i, s⟩
 ·cases r; exact x
 ·have r0 := r
  obtain ⟨e, hm, rfl⟩ := r
  obtain ⟨hρ, s2, h2, c⟩ := x.pin i (.hd s.val) (set_at e) rfl
  obtain ⟨v, hv, q⟩ := inv.at_ i s e
  obtain ⟨k, rfl, hot⟩ : ∃ k, v = .ref k /\ Hot Z M k s.val := by cases s <;> first | exact q | cases hm
  have e2 : s2 = .hd s.val := by cases c; rfl
  subst e2
  have hv2 : ρ2[i]? = some (some (.ref k)) := hρ.trans hv
  obtain ⟨v', hv', k', hk', hot2⟩ := x.inv.at_ i _ h2
  rw [hv2] at hv'
  cases hv'
  cases hk'
  have hi : ∀ {j : Nat} {t : Sl}, (a2.set i (some s))[j]? = some (some t) -> (j = i /\ t = s) \/ (j ≠ i /\ a2[j]? = some (some t)) := fun {j t} es => set_get es
  have live : ∀ {j : Nat} {t : Sl}, (a2.set i (some s))[j]? = some (some t) -> ∃ t0 : Sl, a2[j]? = some (some t0) := fun {j t} es => by
   rcases hi es with ⟨rfl, rfl⟩ | ⟨_, z⟩
   ·exact ⟨_, h2⟩
   ·exact ⟨_, z⟩
  have sepi : ∀ (j : Nat) (t : Sl), j ≠ i -> a2[j]? = some (some t) -> ρ2[j]? ≠ some (some (.ref k)) := fun j t hj et c => by
   rcases x.al j t k et c hot.lt with z | ⟨t1, z1, z2⟩
   ·exact hot2.1 z
   ·rw [List.getElem?_set_ne fun z => hj z.symm] at z1
    exact inv.sep i j k s t1 (fun z => hj z.symm) e hm hv z1 z2
  refine ⟨x.le.weak fun k m => .inl (r0.mu m), ⟨by show _ = (a2.set i (some s)).length; simp [x.inv.len], x.inv.dom, fun j t es => ?_, fun j j' k1 t t' hne e1 e2 e3 e4 => ?_, fun j d k1 e1 e2 => ?_, x.inv.bM⟩, fun k1 m => ?_, fun j s' k1 e1 e2 hk1 => ?_, fun j t es ht => ?_⟩
  ·rcases hi es with ⟨rfl, rfl⟩ | ⟨_, z⟩
   ·refine ⟨_, hv2, ?_⟩
    cases t <;> first | exact ⟨k, rfl, hot2⟩ | cases hm
   ·exact x.inv.at_ j t z
  ·obtain ⟨t0, h0⟩ := live e4
   rcases hi e1 with ⟨rfl, rfl⟩ | ⟨_, z⟩
   ·rw [hv2] at e3
    cases e3
    exact sepi j' t0 (fun z => hne z.symm) h0
   ·exact x.inv.sep j j' k1 t t0 hne z e2 e3 h0
  ·rcases hi e1 with ⟨rfl, rfl⟩ | ⟨_, z⟩
   ·rw [hv2] at e2
    cases e2
    exact inv.base _ d k e hv
   ·exact x.inv.base j d k1 z e2
  ·obtain ⟨j, t, h1, h2', h3⟩ := m
   rcases hi h1 with ⟨rfl, rfl⟩ | ⟨_, z⟩
   ·rw [hv2] at h3
    cases h3
    exact .inl ⟨_, _, e, hm, hv⟩
   ·exact (x.sub k1 ⟨j, t, z, h2', h3⟩).imp_left r0.mu
  ·obtain ⟨t0, h0⟩ := live e1
   rcases x.al j t0 k1 h0 e2 hk1 with z | ⟨t1, z1, z2⟩
   ·exact .inl z
   ·obtain ⟨t2, ht2⟩ := r0.live z1
    exact .inr ⟨t2, ht2, z2⟩
  ·by_cases hj : j = i
   ·subst hj
    rw [e] at es
    cases es
    exact ⟨hρ, s, by show (a2.set _ (some s))[_]? = _; exact set_at h2, .refl s⟩
   ·obtain ⟨w1, s', w2, c'⟩ := x.pin j t (by rw [List.getElem?_set_ne fun z => hj z.symm]; exact es) ht
    exact ⟨w1, s', by show (a2.set _ (some s))[_]? = _; rw [List.getElem?_set_ne fun z => hj z.symm]; exact w2, c'⟩
theorem unhold_eq (r : HoldR a1 a' h) : Pu.unhold a' h = a1 := by
 rcases h with _ | ⟨i, s⟩
 ·exact r
 ·obtain ⟨e, hm, rfl⟩ := r
  show (a1.set i _).set i (some s) = a1
  rw [List.set_set]
  apply List.ext_getElem?
  intro j
  by_cases hj : i = j
  ·subst hj; rw [set_at e, e]
  ·rw [List.getElem?_set_ne hj]
theorem SrcR.step {src : Src} {ds : List Dv} (inv : Inv B Z M ρ a) (r : SrcR ρ a Z M src ds) (x : StS B ρ Z M a ρ1 Z1 M1 a1) : SrcR ρ1 a1 Z1 M1 src ds := by
 obtain ⟨K, xs, hK, ra, hs⟩ := r
 refine ⟨K, xs, fun k hk => ⟨Nat.lt_of_lt_of_le (hK k hk).1 x.le.len, fun m => ?_⟩, ra.mono (x.le.zz inv) (x.le.mm inv), fun M' hM => hs M' fun k hk => (hM k hk).trans (x.le.keep k (hK k hk).1 (hK k hk).2)⟩
 rcases x.sub k m with z | z
 ·exact (hK k hk).2 z
 ·have := (hK k hk).1
  omega
end
section
variable {f fa fb fc : Fe} {p pa pb pc : Pe}
def signsD (z : Str) : List Dv := z.cps.toList.map fun c => .str ⟨#[c]⟩
def piSeq (p : Pe) : Pi := fun a => (p a).bind fun r => match r.1 with
 | .v _ (.tup _ xs) => some (xs, none, r.2)
 | .v _ (.str z) => some (signsD z, none, r.2)
 | .v _ (.lst xs) => some (xs, none, r.2)
 | .v _ (.fro xs) => some (xs, none, r.2)
 | .pl i => match r.2[i]? with
  | some (some (.own (.lst xs))) => some (xs, some (i, .own (.lst xs)), r.2.set i (some (.hd (.lst xs))))
  | some (some (.io (.lst xs))) => some (xs, some (i, .io (.lst xs)), r.2.set i (some (.hd (.lst xs))))
  | some (some (.bw (.lst xs))) => some (xs, none, r.2)
  | some (some (.bw (.fro xs))) => some (xs, none, r.2)
  | some (some (.hd (.lst xs))) => some (xs, none, r.2)
  | _ => none
 | _ => none
theorem DenA.signs {Z : Nat -> Prop} {M : Mem} : ∀ l : List Nat, DenA Z M (l.map fun c => Vl.str ⟨#[c]⟩) (l.map fun c => Dv.str ⟨#[c]⟩)
 | [] => .nil
 | _ :: l => .cons (.str _) (DenA.signs l)
theorem iSeq_ref {ρ : Sh.Env} {M M1 : Mem} {k : Nat} {xs : List Vl} (h : f ρ M = some (.ref k, M1)) (hk : seqAt M1 k = some xs) : iSeq f ρ M = some (fun M => seqAt M k, xs.length, M1) := by
 simp only [iSeq, h, hk]
theorem iSeq_tup {ρ : Sh.Env} {M M1 : Mem} {t : Tk} {xs : List Vl} (h : f ρ M = some (.tup t xs, M1)) : iSeq f ρ M = some (fun _ => some xs, xs.length, M1) := by
 simp only [iSeq, h]
theorem iSeq_str {ρ : Sh.Env} {M M1 : Mem} {z : Str} (h : f ρ M = some (.str z, M1)) : iSeq f ρ M = some (fun _ => some (Sh.signs z), z.length, M1) := by
 simp only [iSeq, h]
theorem src_ref {ρ : Sh.Env} {a : AEnv} {Z : Nat -> Prop} {M : Mem} {k : Nat} {xs : List Vl} {ds : List Dv} (hk : seqAt M k = some xs) (ra : DenA Z M xs ds) (hm : ¬ Mu ρ a k) : SrcR ρ a Z M (fun M => seqAt M k) ds := by
 have hlt : k < M.length := by
  unfold seqAt at hk
  split at hk
  ·rename_i h; exact (List.getElem?_eq_some_iff.mp h).1
  ·cases hk
 refine ⟨some k, xs, fun k' e => by cases e; exact ⟨hlt, hm⟩, ra, fun M' h => ?_⟩
 show seqAt M' k = some xs
 rw [<- hk]
 unfold seqAt
 rw [h k rfl]
theorem ai_seq (hp : AE f p) : AI (iSeq f) (piSeq p) := by
 intro B Z M ρ a ds h a' inv e
 unfold piSeq at e
 obtain ⟨⟨x, a1⟩, e1, e⟩ := Option.bind_eq_some_iff.mp e
 obtain ⟨v, M1, Z1, f1, s1, r1⟩ := hp _ _ _ _ _ _ _ inv e1
 have lst : ∀ {d : Dv} {es : List Dv}, d.seq = some es -> ∀ o, AvR M.length Z1 M1 ρ a1 v (.v o d) -> ∃ src n M' Z' a1', iSeq f ρ M = some (src, n, M') /\ Stp B ρ Z M a Z' M' a1' /\ HoldR a1' a1 none /\ es.length <= n /\ SrcR ρ a1 Z' M' src es := by
  intro d es hd o r
  obtain ⟨k, xs, rfl, hk, ra⟩ := (r.rd (d := d) s1.inv rfl).seq hd
  refine ⟨_, _, M1, Z1, a1, iSeq_ref f1 hk, s1, rfl, by rw [ra.length]; exact Nat.le_refl _, src_ref hk ra fun m => ?_⟩
  cases o with
  | false =>
   cases r with
   | ref z _ _ => exact (s1.inv.hot m).1 z
  | true =>
   obtain ⟨k', e, _, _, hs⟩ := r
   cases e
   obtain ⟨j, t, h1, _, h3⟩ := m
   exact hs j t h1 h3
 have slot : ∀ {i : Nat} {s : Sl} {es : List Dv}, AvR M.length Z1 M1 ρ a1 v (.pl i) -> a1[i]? = some (some s) -> s.val.seq = some es -> ∃ k xs, v = .ref k /\ ρ[i]? = some (some (.ref k)) /\ seqAt M1 k = some xs /\ DenA Z1 M1 xs es := by
  intro i s es r hs he
  obtain ⟨h1, _⟩ := r
  obtain ⟨v', hv', q⟩ := s1.inv.at_ i s hs
  rw [h1] at hv'
  cases hv'
  obtain ⟨k, xs, rfl, hk, ra⟩ := q.rd.seq he
  exact ⟨k, xs, rfl, h1, hk, ra⟩
 have cold : ∀ {i : Nat} {s : Sl} {es : List Dv}, AvR M.length Z1 M1 ρ a1 v (.pl i) -> a1[i]? = some (some s) -> s.val.seq = some es -> s.mut = false -> ∃ src n M' Z' a1', iSeq f ρ M = some (src, n, M') /\ Stp B ρ Z M a Z' M' a1' /\ HoldR a1' a1 none /\ es.length <= n /\ SrcR ρ a1 Z' M' src es := by
  intro i s es r hs he hm
  obtain ⟨k, xs, rfl, hv, hk, ra⟩ := slot r hs he
  refine ⟨_, _, M1, Z1, a1, iSeq_ref f1 hk, s1, rfl, by rw [ra.length]; exact Nat.le_refl _, src_ref hk ra ?_⟩
  rintro ⟨j, t, h1, h2, h3⟩
  by_cases hj : j = i
  ·subst hj
   rw [hs] at h1
   cases h1
   rw [hm] at h2
   cases h2
  ·exact s1.inv.sep j i k t s hj h1 h2 h3 hs hv
 have warm : ∀ {i : Nat} {s : Sl} {es : List Dv}, AvR M.length Z1 M1 ρ a1 v (.pl i) -> a1[i]? = some (some s) -> s.val.seq = some es -> s.mut = true -> ∃ src n M' Z' a1', iSeq f ρ M = some (src, n, M') /\ Stp B ρ Z M a Z' M' a1' /\ HoldR a1' (a1.set i (some (.hd s.val))) (some (i, s)) /\ es.length <= n /\ SrcR ρ (a1.set i (some (.hd s.val))) Z' M' src es := by
  intro i s es r hs he hm
  obtain ⟨k, xs, rfl, hv, hk, ra⟩ := slot r hs he
  refine ⟨_, _, M1, Z1, a1, iSeq_ref f1 hk, s1, ⟨hs, hm, rfl⟩, by rw [ra.length]; exact Nat.le_refl _, src_ref hk ra ?_⟩
  rintro ⟨j, t, h1, h2, h3⟩
  rcases set_get h1 with ⟨rfl, rfl⟩ | ⟨hj, h1⟩
  ·cases h2
  ·exact s1.inv.sep j i k t s hj h1 h2 h3 hs hv
 split at e
 ·rename_i o t xs hx
  cases e
  cases hx
  obtain ⟨ys, rfl, ra⟩ := r1.rd (d := .tup t ds) s1.inv rfl
  exact ⟨_, _, M1, Z1, a1, iSeq_tup f1, s1, rfl, by rw [ra.length]; exact Nat.le_refl _, none, ys, fun k z => (by cases z), ra, fun _ _ => rfl⟩
 ·rename_i o z hx
  cases e
  cases hx
  have := r1.rd (d := .str z) s1.inv rfl
  cases this
  refine ⟨_, _, M1, Z1, a1, iSeq_str f1, s1, rfl, ?_, none, Sh.signs z, fun k z => (by cases z), DenA.signs _, fun _ _ => rfl⟩
  unfold signsD Str.length
  simp
 ·rename_i o xs hx
  cases e
  cases hx
  exact lst rfl _ r1
 ·rename_i o xs hx
  cases e
  cases hx
  exact lst rfl _ r1
 ·rename_i i hx
  cases hx
  split at e
  ·rename_i hs; cases e; exact warm r1 hs rfl rfl
  ·rename_i hs; cases e; exact warm r1 hs rfl rfl
  ·rename_i hs; cases e; exact cold r1 hs rfl rfl
  ·rename_i hs; cases e; exact cold r1 hs rfl rfl
  ·rename_i hs; cases e; exact cold r1 hs rfl rfl
  ·cases e
 ·cases e
def rngD (lo : Int) (n : Nat) : List Dv := (List.range n).map fun (k : Nat) => .int (lo + k)
theorem src_c {ρ : Sh.Env} {a : AEnv} {Z : Nat -> Prop} {M : Mem} {xs : List Vl} {ds : List Dv} (ra : DenA Z M xs ds) : SrcR ρ a Z M (fun _ => some xs) ds := ⟨none, xs, fun k z => (by cases z), ra, fun _ _ => rfl⟩
def piR1 (p : Pe) : Pi := fun a => (p a).bind fun r => match rd r.2 r.1 with
 | some (.int j) => if -(2 ^ 62) <= j /\ j < 2 ^ 62 then some (rngD 0 j.toNat, none, r.2) else none
 | _ => none
theorem ai_r1 (hp : AE f p) : AI (iRange1 f) (piR1 p) := by
 intro B Z M ρ a ds h a' inv e
 unfold piR1 at e
 obtain ⟨⟨x, a1⟩, e1, e⟩ := Option.bind_eq_some_iff.mp e
 obtain ⟨v, M1, Z1, f1, s1, r1⟩ := hp _ _ _ _ _ _ _ inv e1
 split at e
 ·rename_i j hr
  have := r1.rd s1.inv hr
  cases this
  split at e
  ·rename_i hc
   cases e
   refine ⟨_, _, M1, Z1, a1, by simp only [iRange1, f1]; rw [if_pos hc] <;> rfl, s1, rfl, by unfold rngD; simp, src_c ?_⟩
   exact DenA.ints _ _
  ·cases e
 ·cases e
def piR2 (p q : Pe) : Pi := fun a => (p a).bind fun r => match rd r.2 r.1 with
 | some (.int i) => (q r.2).bind fun s => match rd s.2 s.1 with
  | some (.int j) => if -(2 ^ 62) <= i /\ i < 2 ^ 62 /\ -(2 ^ 62) <= j /\ j < 2 ^ 62 then some (rngD i (j - i).toNat, none, s.2) else none
  | _ => none
 | _ => none
def rngCD (lo c : Int) (n : Nat) : List Dv := (List.range n).map fun (k : Nat) => .int (lo + (k : Nat) * c)
def piR3 (p q o : Pe) : Pi := fun a => (p a).bind fun r => match rd r.2 r.1 with
 | some (.int i) => (q r.2).bind fun s => match rd s.2 s.1 with
  | some (.int j) => (o s.2).bind fun t => match rd t.2 t.1 with
   | some (.int k) => if k ≠ 0 /\ k.natAbs < 1073741824 /\ Builtin.Range.small i j k = true /\ Builtin.Range.rangeSize i j k = (Builtin.Range.rangeSize i j k).toNat then some (rngCD i k (Builtin.Range.rangeSize i j k).toNat, none, t.2) else none
   | _ => none
  | _ => none
 | _ => none
theorem ai_r3 (hp : AE fa pa) (hq : AE fb pb) (ho : AE fc pc) : AI (iRange3 fa fb fc) (piR3 pa pb pc) := by
 intro B Z M ρ a ds h a' inv e
 unfold piR3 at e
 obtain ⟨⟨x, a1⟩, e1, e⟩ := Option.bind_eq_some_iff.mp e
 obtain ⟨v, M1, Z1, f1, s1, r1⟩ := hp _ _ _ _ _ _ _ inv e1
 split at e
 ·rename_i i hr
  have := r1.rd s1.inv hr
  cases this
  obtain ⟨⟨x2, a2⟩, e2, e⟩ := Option.bind_eq_some_iff.mp e
  obtain ⟨v2, M2, Z2, f2, s2, r2⟩ := hq _ _ _ _ _ _ _ s1.inv e2
  split at e
  ·rename_i j hr2
   have := r2.rd s2.inv hr2
   cases this
   obtain ⟨⟨x3, a3⟩, e3, e⟩ := Option.bind_eq_some_iff.mp e
   obtain ⟨v3, M3, Z3, f3, s3, r3⟩ := ho _ _ _ _ _ _ _ s2.inv e3
   split at e
   ·rename_i k hr3
    have := r3.rd s3.inv hr3
    cases this
    split at e
    ·rename_i hc
     cases e
     refine ⟨_, _, M3, Z3, a3, by simp only [iRange3, f1, f2, f3]; rw [if_pos hc] <;> rfl, (s1.trans s2).trans s3, rfl, by unfold rngCD; simp, src_c ?_⟩
     exact DenA.ints _ _
    ·cases e
   ·cases e
  ·cases e
 ·cases e
end
def forA (g : Pg) (body : Ps) : List Dv -> AEnv -> Option (AOut × AEnv)
 | [], a => some (.nx, a)
 | d :: ds, a => (g d a).bind fun a1 => (body a1).bind fun r => match r.1 with
  | .nx => forA g body ds r.2
  | .ct => forA g body ds r.2
  | .bk => some (.nx, r.2)
  | .rt o v => some (.rt o v, r.2)
def zFor (i : Pi) (g : Pg) (body : Ps) : Ps := fun a => (i a).bind fun r => (forA g body r.1 r.2.2).map fun s => (s.1, unhold s.2 r.2.1)
theorem for_main {g : Fg} {s : Fs} {pg : Pg} {z : Ps} (hg : AG g pg) (hb : AS s z) (src : Src) (ds : List Dv) : ∀ (m i n : Nat) (B : Nat) (Z : Nat -> Prop) (M : Mem) (ρ : Sh.Env) (a : AEnv) (y : AOut) (a' : AEnv), ds.length - i <= m -> ds.length <= i + n -> Inv B Z M ρ a -> SrcR ρ a Z M src ds -> forA pg z (ds.drop i) a = some (y, a') -> ∃ o ρ' M' Z', forL src g s n i ρ M = some (o, ρ', M') /\ StS B ρ Z M a ρ' Z' M' a' /\ OutR B Z' M' y o := by
 intro m
 induction m with
 | zero =>
  intro i n B Z M ρ a y a' hm hn inv hs e
  obtain ⟨K, xs, hK, ra, hsrc⟩ := id hs
  have hi : ds.length <= i := by omega
  rw [List.drop_eq_nil_of_le hi] at e
  cases e
  have hx : xs[i]? = none := by rw [List.getElem?_eq_none_iff, ra.length]; exact hi
  refine ⟨.nx, ρ, M, Z, ?_, .refl inv, trivial⟩
  cases n <;> simp only [forL, hsrc M fun _ _ => rfl, hx]
 | succ m ih =>
  intro i n B Z M ρ a y a' hm hn inv hs e
  obtain ⟨K, xs, hK, ra, hsrc⟩ := id hs
  by_cases hi : ds.length <= i
  ·rw [List.drop_eq_nil_of_le hi] at e
   cases e
   have hx : xs[i]? = none := by rw [List.getElem?_eq_none_iff, ra.length]; exact hi
   refine ⟨.nx, ρ, M, Z, ?_, .refl inv, trivial⟩
   cases n <;> simp only [forL, hsrc M fun _ _ => rfl, hx]
  ·have hi' : i < ds.length := by omega
   rw [List.drop_eq_getElem_cons hi'] at e
   obtain ⟨n, rfl⟩ : ∃ n', n = n' + 1 := ⟨n - 1, by omega⟩
   unfold forA at e
   obtain ⟨a1, e1, e⟩ := Option.bind_eq_some_iff.mp e
   obtain ⟨x, hx, rx⟩ := ra.get (List.getElem?_eq_getElem hi')
   obtain ⟨ρ1, M1, Z1, f1, s1⟩ := hg _ _ _ _ _ _ _ _ inv rx e1
   obtain ⟨⟨y2, a2⟩, e2, e⟩ := Option.bind_eq_some_iff.mp e
   obtain ⟨o, ρ2, M2, Z2, f2, s2, r2⟩ := hb _ _ _ _ _ _ _ s1.inv e2
   have s12 := s1.trans s2
   have hs2 := hs.step inv s12
   cases y2 with
   | nx =>
    cases o with
    | nx =>
     obtain ⟨o3, ρ3, M3, Z3, f3, s3, r3⟩ := ih (i + 1) n _ _ _ _ _ _ _ (by omega) (by omega) s2.inv hs2 e
     exact ⟨o3, ρ3, M3, Z3, by simp only [forL, hsrc M fun _ _ => rfl, hx, f1, f2]; exact f3, s12.trans s3, r3⟩
    | _ => cases r2
   | ct =>
    cases o with
    | ct =>
     obtain ⟨o3, ρ3, M3, Z3, f3, s3, r3⟩ := ih (i + 1) n _ _ _ _ _ _ _ (by omega) (by omega) s2.inv hs2 e
     exact ⟨o3, ρ3, M3, Z3, by simp only [forL, hsrc M fun _ _ => rfl, hx, f1, f2]; exact f3, s12.trans s3, r3⟩
    | _ => cases r2
   | bk =>
    cases e
    cases o with
    | bk => exact ⟨.nx, ρ2, M2, Z2, by simp only [forL, hsrc M fun _ _ => rfl, hx, f1, f2], s12, trivial⟩
    | _ => cases r2
   | rt ow d =>
    cases e
    cases o with
    | rt v => exact ⟨.rt v, ρ2, M2, Z2, by simp only [forL, hsrc M fun _ _ => rfl, hx, f1, f2], s12, r2⟩
    | _ => cases ow <;> cases r2
theorem as_for {fi : Fi} {pi : Pi} {g : Fg} {s : Fs} {pg : Pg} {z : Ps} (hi : AI fi pi) (hg : AG g pg) (hb : AS s z) : AS (sFor fi g s) (zFor pi pg z) := by
 intro B Z M ρ a y a' inv e
 unfold zFor at e
 obtain ⟨⟨ds, h, a1⟩, e1, e⟩ := Option.bind_eq_some_iff.mp e
 obtain ⟨⟨y2, a2⟩, e2, e⟩ := Option.map_eq_some_iff.mp e
 cases e
 obtain ⟨src, n, M1, Z1, a0, f1, s1, hr, hn, hs⟩ := hi _ _ _ _ _ _ _ _ inv e1
 obtain ⟨o, ρ2, M2, Z2, f2, s2, r2⟩ := for_main hg hb src ds ds.length 0 n B Z1 M1 ρ a1 y2 a2 (by omega) (by omega) (hr.inv s1.inv) hs (by rw [List.drop_zero]; exact e2)
 exact ⟨o, ρ2, M2, Z2, by simp only [sFor, f1]; exact f2, s1.st.trans (s2.unhold s1.inv hr), r2⟩
end Pu
namespace Pu
open PySem PySem.Spec PyProof.Rows L2 NdefX GenE Sh
abbrev Pd := List Sl -> Option ((Bool × Dv) × Option Dv)
def okA (io : Option Nat) (i : Nat) : Sl -> Bool
 | .fz _ => true
 | .bw _ => true
 | .io _ => io == some i
 | _ => false
structure ArgR (io : Option Nat) (Z : Nat -> Prop) (M : Mem) (vs : List Vl) (ss : List Sl) : Prop where
 len : vs.length = ss.length
 at_ : ∀ (i : Nat) (s : Sl), ss[i]? = some s -> ∃ v, vs[i]? = some v /\ SlR Z M v s /\ okA io i s = true
 sep : ∀ (j k : Nat), io = some j -> vs[j]? = some (.ref k) -> ∀ i : Nat, i ≠ j -> vs[i]? ≠ some (.ref k)
 iov : ∀ j : Nat, io = some j -> ∃ d, ss[j]? = some (.io d)
def RetR (n : Nat) (Z : Nat -> Prop) (M : Mem) (v : Vl) : Bool × Dv -> Prop
 | (false, d) => Den Z M v d
 | (true, d) => ∃ k, v = .ref k /\ n <= k /\ Hot Z M k d
def AD (io : Option Nat) (m : Fd) (p : Pd) : Prop := ∀ (Z : Nat -> Prop) (M : Mem) (vs : List Vl) (ss : List Sl) (r : Bool × Dv) (e : Option Dv), (∀ k : Nat, Z k -> k < M.length) -> ArgR io Z M vs ss -> p ss = some (r, e) ->
 ∃ v M' Z', m vs M = some (v, M') /\ Le (fun k => ∃ j, io = some j /\ vs[j]? = some (.ref k)) Z M Z' M' /\ (∀ k : Nat, Z' k -> k < M'.length) /\ (∀ j, io = some j -> ∃ k e', vs[j]? = some (.ref k) /\ e = some e' /\ Hot Z' M' k e') /\ RetR M.length Z' M' v r
def runA (io : Option Nat) (n : Nat) (z : Ps) : Pd := fun ss => (z (ss.map some ++ List.replicate (n - ss.length) none)).bind fun r =>
 match io with
 | none => match r.1 with
  | .rt o d => some ((o, d), none)
  | .nx => some ((false, .non), none)
  | _ => none
 | some j => match r.2[j]? with
  | some (some (.io e)) => match r.1 with
   | .rt o d => some ((o, d), some e)
   | .nx => some ((false, .non), some e)
   | _ => none
  | _ => none
theorem app_none {α : Type} {ss : List α} {n i : Nat} {s : α} (h : (ss.map some ++ List.replicate n none)[i]? = some (some s)) : ss[i]? = some s := by
 by_cases hi : i < ss.length
 ·rw [List.getElem?_append_left (by simpa using hi), List.getElem?_map] at h
  rcases hq : ss[i]? with _ | x
  ·rw [hq] at h; cases h
  ·rw [hq] at h; cases h; rfl
 ·rw [List.getElem?_append_right (by simpa using hi)] at h
  rw [List.getElem?_replicate] at h
  split at h <;> cases h
theorem none_app {α : Type} {ss : List α} {n i : Nat} {s : α} (h : ss[i]? = some s) : (ss.map some ++ List.replicate n none)[i]? = some (some s) := by
 have hi := (List.getElem?_eq_some_iff.mp h).1
 rw [List.getElem?_append_left (by simpa using hi), List.getElem?_map, h]
 rfl
theorem ad_run {io : Option Nat} {n : Nat} {s : Fs} {z : Ps} (h : AS s z) : AD io (runD n s) (runA io n z) := by
 intro Z M vs ss r e hd ha er
 unfold runA at er
 obtain ⟨⟨y, a'⟩, e1, er⟩ := Option.bind_eq_some_iff.mp er
 have mu0 : ∀ {i : Nat} {s : Sl}, ss[i]? = some s -> s.mut = true -> io = some i /\ ∃ d, s = .io d := fun {i s} hs hm => by
  obtain ⟨v, _, _, ok⟩ := ha.at_ i s hs
  cases s with
  | io d => exact ⟨by simpa [okA] using ok, d, rfl⟩
  | own d => cases ok
  | _ => cases hm
 have inv : Inv M.length Z M (vs.map some ++ List.replicate (n - vs.length) none) (ss.map some ++ List.replicate (n - ss.length) none) := by
  refine ⟨by simp [ha.len], hd, fun i s hs => ?_, fun i j k s t hne h1 h2 h3 h4 c => ?_, fun i d k h1 h2 => ?_, Nat.le_refl _⟩
  ·obtain ⟨v, hv, q, _⟩ := ha.at_ i s (app_none hs)
   exact ⟨v, none_app hv, q⟩
  ·obtain ⟨hio', _⟩ := mu0 (app_none h1) h2
   exact ha.sep i k hio' (app_none h3) j (fun z => hne z.symm) (app_none c)
  ·obtain ⟨_, d', z⟩ := mu0 (app_none h1) rfl
   cases z
 obtain ⟨o, ρ', M', Z', f1, s1, r1⟩ := h _ _ _ _ _ _ _ inv e1
 have le : Le (fun k => ∃ j, io = some j /\ vs[j]? = some (.ref k)) Z M Z' M' := s1.le.weak fun k m => by
  obtain ⟨i, t, h1, h2, h3⟩ := m
  exact .inl ⟨i, (mu0 (app_none h1) h2).1, app_none h3⟩
 have fin : ∀ j, io = some j -> ∃ k e', vs[j]? = some (.ref k) /\ a'[j]? = some (some (.io e')) /\ Hot Z' M' k e' := by
  intro j hj
  obtain ⟨d0, h0⟩ := ha.iov j hj
  obtain ⟨v0, hv0, q0, _⟩ := ha.at_ j _ h0
  obtain ⟨k, rfl, _⟩ := q0
  obtain ⟨hρ, s', hs', c⟩ := s1.pin j _ (none_app h0) rfl
  rw [none_app hv0] at hρ
  cases c with
  | io _ d1 =>
   obtain ⟨v, hv, k', hk', hot⟩ := s1.inv.at_ j _ hs'
   rw [hρ] at hv
   cases hv
   cases hk'
   exact ⟨k, d1, hv0, hs', hot⟩
 have fin0 : ∀ r : Bool × Dv, (∀ v, RetR M.length Z' M' v r -> (runD n s vs M = some (v, M')) -> ∃ v M' Z', runD n s vs M = some (v, M') /\ Le (fun k => ∃ j, io = some j /\ vs[j]? = some (.ref k)) Z M Z' M' /\ (∀ k : Nat, Z' k -> k < M'.length) /\ (∀ j, io = some j -> ∃ k e', vs[j]? = some (.ref k) /\ e = some e' /\ Hot Z' M' k e') /\ RetR M.length Z' M' v r) -> ((y = .rt r.1 r.2) \/ (y = .nx /\ r = (false, .non))) -> ∃ v M' Z', runD n s vs M = some (v, M') /\ Le (fun k => ∃ j, io = some j /\ vs[j]? = some (.ref k)) Z M Z' M' /\ (∀ k : Nat, Z' k -> k < M'.length) /\ (∀ j, io = some j -> ∃ k e', vs[j]? = some (.ref k) /\ e = some e' /\ Hot Z' M' k e') /\ RetR M.length Z' M' v r := by
  intro r k hy
  rcases hy with rfl | ⟨rfl, rfl⟩
  ·cases o with
   | rt v =>
    refine k v ?_ (by unfold runD; rw [f1])
    obtain ⟨ow, d⟩ := r
    cases ow <;> exact r1
   | _ => obtain ⟨ow, d⟩ := r; cases ow <;> cases r1
  ·cases o with
   | nx => exact k .non .non (by unfold runD; rw [f1])
   | _ => cases r1
 cases io with
 | none =>
  simp only at er
  split at er
  ·cases er
   exact fin0 _ (fun v q hq => ⟨v, M', Z', hq, le, s1.inv.dom, fun j hj => (by cases hj), q⟩) (.inl rfl)
  ·cases er
   exact fin0 _ (fun v q hq => ⟨v, M', Z', hq, le, s1.inv.dom, fun j hj => (by cases hj), q⟩) (.inr ⟨rfl, rfl⟩)
  ·cases er
 | some j =>
  obtain ⟨k, e', g1, g2, g3⟩ := fin j rfl
  simp only [g2] at er
  split at er
  ·cases er
   exact fin0 _ (fun v q hq => ⟨v, M', Z', hq, le, s1.inv.dom, fun j' hj => by cases hj; exact ⟨k, e', g1, rfl, g3⟩, q⟩) (.inl rfl)
  ·cases er
   exact fin0 _ (fun v q hq => ⟨v, M', Z', hq, le, s1.inv.dom, fun j' hj => by cases hj; exact ⟨k, e', g1, rfl, g3⟩, q⟩) (.inr ⟨rfl, rfl⟩)
  ·cases er
def argS (a : AEnv) : Av -> Option Sl
 | .v false d => some (.fz d)
 | .v true d => some (.bw d)
 | .pl i => match a[i]? with
  | some (some (.fz d)) => some (.fz d)
  | some (some s) => some (.bw s.val)
  | _ => none
def argsS (a : AEnv) : List Av -> Option (List Sl)
 | [] => some []
 | y :: ys => match argS a y, argsS a ys with
  | some s, some ss => some (s :: ss)
  | _, _ => none
def notPl (i : Nat) : Av -> Bool
 | .pl j => i != j
 | _ => true
def pCall (io : Option Nat) (p : Pd) (u : Pa) : Pe := fun a => (u a).bind fun r => match io with
 | none => (argsS r.2 r.1).bind fun ss => (p ss).map fun q => (.v q.1.1 q.1.2, r.2)
 | some j => match r.1[j]? with
  | some (.pl i) => match r.2[i]? with
   | some (some s) => if s.mut = true /\ (r.1.eraseIdx j).all (notPl i) = true then (argsS r.2 r.1).bind fun ss => (p (ss.set j (.io s.val))).bind fun q => match q.2 with
     | some e => some (.v q.1.1 q.1.2, r.2.set i (some (s.put e)))
     | none => none
    else none
   | _ => none
  | _ => none
section
variable {n B : Nat} {ρ : Sh.Env} {Z : Nat -> Prop} {M : Mem} {a : AEnv}
theorem argS_r (inv : Inv B Z M ρ a) {v : Vl} {y : Av} {s : Sl} (r : AvR n Z M ρ a v y) (h : argS a y = some s) : SlR Z M v s /\ ∀ io i, okA io i s = true := by
 cases y with
 | v o d =>
  cases o with
  | false => cases h; exact ⟨r, fun _ _ => rfl⟩
  | true =>
   cases h
   obtain ⟨k, rfl, _, hot, _⟩ := r
   exact ⟨⟨k, rfl, hot⟩, fun _ _ => rfl⟩
 | pl i =>
  obtain ⟨h1, t, h2⟩ := r
  simp only [argS, h2] at h
  obtain ⟨v', hv', q⟩ := inv.at_ i t h2
  rw [h1] at hv'
  cases hv'
  cases t with
  | fz d => cases h; exact ⟨q, fun _ _ => rfl⟩
  | _ => cases h; exact ⟨q, fun _ _ => rfl⟩
theorem argsS_r (inv : Inv B Z M ρ a) : ∀ {vs : List Vl} {ys : List Av} {ss : List Sl}, AvRs n Z M ρ a vs ys -> argsS a ys = some ss -> vs.length = ss.length /\ ∀ (i : Nat) (s : Sl), ss[i]? = some s -> ∃ v, vs[i]? = some v /\ SlR Z M v s /\ ∀ io i, okA io i s = true
 | _, _, _, .nil, h => by cases h; exact ⟨rfl, fun i s h => by simp at h⟩
 | _, _, _, .cons r q, h => by
  unfold argsS at h
  split at h
  ·rename_i h1 h2
   cases h
   obtain ⟨l, k⟩ := argsS_r inv q h2
   refine ⟨by simp [l], fun i s e => ?_⟩
   cases i with
   | zero => cases e; exact ⟨_, rfl, argS_r inv r h1⟩
   | succ i => exact k i s e
  ·cases h
theorem AvRs.get : ∀ {vs : List Vl} {ys : List Av}, AvRs n Z M ρ a vs ys -> ∀ {i : Nat} {y : Av}, ys[i]? = some y -> ∃ v, vs[i]? = some v /\ AvR n Z M ρ a v y
 | _, _, .cons r _, 0, _, h => by cases h; exact ⟨_, rfl, r⟩
 | _, _, .cons _ q, i + 1, _, h => q.get (i := i) h
theorem AvRs.get' : ∀ {vs : List Vl} {ys : List Av}, AvRs n Z M ρ a vs ys -> ∀ {i : Nat} {v : Vl}, vs[i]? = some v -> ∃ y, ys[i]? = some y /\ AvR n Z M ρ a v y
 | _, _, .cons r _, 0, _, h => by cases h; exact ⟨_, rfl, r⟩
 | _, _, .cons _ q, i + 1, _, h => q.get' (i := i) h
theorem RetR.av {v : Vl} {r : Bool × Dv} {m : Nat} {M' : Mem} {Z' : Nat -> Prop} {a' : AEnv} (h : RetR m Z' M' v r) (hl : ∀ (i : Nat) (s : Sl) (k : Nat), a'[i]? = some (some s) -> ρ[i]? = some (some (.ref k)) -> k < m) : AvR m Z' M' ρ a' v (.v r.1 r.2) := by
 obtain ⟨o, d⟩ := r
 cases o with
 | false => exact h
 | true =>
  obtain ⟨k, rfl, hn, hot⟩ := h
  exact ⟨k, rfl, hn, hot, fun i s e c => by have := hl i s k e c; omega⟩
theorem mem_erase {α : Type} {l : List α} {i j : Nat} {x : α} (h : l[i]? = some x) (hne : i ≠ j) : x ∈ l.eraseIdx j := by
 by_cases hij : i < j
 ·exact List.mem_of_getElem? (i := i) (by rw [List.getElem?_eraseIdx_of_lt hij]; exact h)
 ·obtain ⟨i', rfl⟩ : ∃ i', i = i' + 1 := ⟨i - 1, by omega⟩
  exact List.mem_of_getElem? (i := i') (by rw [List.getElem?_eraseIdx_of_ge (by omega)]; exact h)
end
theorem ae_call {io : Option Nat} {m : Fd} {p : Pd} {g : Fa} {u : Pa} (hd : AD io m p) (ha : AA g u) : AE (eA m g) (pCall io p u) := by
 intro B Z M ρ a y a' inv e
 unfold pCall at e
 obtain ⟨⟨ys, a1⟩, e1, e⟩ := Option.bind_eq_some_iff.mp e
 obtain ⟨vs, M1, Z1, f1, s1, r1⟩ := ha _ _ _ _ _ _ _ inv e1
 have hl1 : ∀ (i : Nat) (s : Sl) (k : Nat), a1[i]? = some (some s) -> ρ[i]? = some (some (.ref k)) -> k < M1.length := fun i s k h1 h2 => s1.inv.lt h1 h2
 cases io with
 | none =>
  simp only at e
  obtain ⟨ss, e2, e⟩ := Option.bind_eq_some_iff.mp e
  obtain ⟨⟨r, e'⟩, e3, e⟩ := Option.map_eq_some_iff.mp e
  cases e
  obtain ⟨l, k⟩ := argsS_r s1.inv r1 e2
  obtain ⟨v, M2, Z2, f2, le, hd2, _, rr⟩ := hd Z1 M1 vs ss r e' s1.inv.dom ⟨l, fun i s h => let ⟨v, h1, h2, h3⟩ := k i s h; ⟨v, h1, h2, h3 _ _⟩, fun j k h => (by cases h), fun j h => (by cases h)⟩ e3
  have s2 := Stp.grow s1.inv (le.weak fun k ⟨j, h, _⟩ => (by cases h)) hd2
  exact ⟨v, M2, Z2, by simp only [eA, f1]; exact f2, s1.trans s2, (rr.av hl1).less s1.le.len⟩
 | some j =>
  simp only at e
  split at e
  ·rename_i i hj
   split at e
   ·rename_i s hs
    split at e
    ·rename_i hc
     obtain ⟨hm, hall⟩ := hc
     obtain ⟨ss, e2, e⟩ := Option.bind_eq_some_iff.mp e
     obtain ⟨⟨r, e'⟩, e3, e⟩ := Option.bind_eq_some_iff.mp e
     split at e
     ·rename_i d' he'
      cases e
      simp only at he'
      subst he'
      obtain ⟨l, kk⟩ := argsS_r s1.inv r1 e2
      obtain ⟨v0, hv0, ri⟩ := r1.get hj
      obtain ⟨hρ, _⟩ := ri
      obtain ⟨v0', hv0', q⟩ := s1.inv.at_ i s hs
      rw [hρ] at hv0'
      cases hv0'
      obtain ⟨k, rfl, hot⟩ : ∃ k, v0 = .ref k /\ Hot Z1 M1 k s.val := by cases s <;> first | exact q | cases hm
      have mu : Mu ρ a1 k := ⟨i, s, hs, hm, hρ⟩
      have hjl : j < ss.length := by rw [<- l]; exact (List.getElem?_eq_some_iff.mp hv0).1
      have ar : ArgR (some j) Z1 M1 vs (ss.set j (.io s.val)) := by
       refine ⟨by simp [l], fun i' t h => ?_, fun j' k' h h' i' hne c => ?_, fun j' h => by cases h; exact ⟨_, List.getElem?_set_self hjl⟩⟩
       ·by_cases hij : j = i'
        ·subst hij
         rw [List.getElem?_set_self hjl] at h
         cases h
         exact ⟨_, hv0, ⟨k, rfl, hot⟩, by simp [okA]⟩
        ·rw [List.getElem?_set_ne hij] at h
         obtain ⟨v, h1, h2, h3⟩ := kk i' t h
         exact ⟨v, h1, h2, h3 _ _⟩
       ·cases h
        rw [hv0] at h'
        cases h'
        obtain ⟨y', hy', ry⟩ := r1.get' c
        have hn := List.all_eq_true.mp hall y' (mem_erase hy' hne)
        cases y' with
        | v o d =>
         cases o with
         | false =>
          cases ry with
          | ref z _ _ => exact hot.1 z
         | true =>
          obtain ⟨k2, e, _, _, hno⟩ := ry
          cases e
          exact hno i s hs hρ
        | pl i2 =>
         obtain ⟨hρ2, t2, ht2⟩ := ry
         have hne2 : i ≠ i2 := by simpa [notPl] using hn
         exact s1.inv.sep i i2 k s t2 hne2 hs hm hρ ht2 hρ2
      obtain ⟨v, M2, Z2, f2, le, hd2, ho, rr⟩ := hd Z1 M1 vs _ r _ s1.inv.dom ar e3
      obtain ⟨k', d2, hk', hd', hot2⟩ := ho j rfl
      rw [hv0] at hk'
      cases hk'
      cases hd'
      have le' : Le (Mu ρ a1) Z1 M1 Z2 M2 := le.weak fun k2 ⟨j', h, h'⟩ => by
       cases h
       rw [hv0] at h'
       cases h'
       exact .inl mu
      have lone : ∀ k2, k2 < M1.length -> k2 ≠ k -> M2[k2]? = M1[k2]? /\ (Z2 k2 ↔ Z1 k2) := fun k2 hk2 hne => by
       have nn : ¬ ∃ j', some j = some j' /\ vs[j']? = some (.ref k2) := fun ⟨j', h, h'⟩ => by
        cases h
        rw [hv0] at h'
        cases h'
        exact hne rfl
       exact ⟨le.keep k2 hk2 nn, le.fz k2 hk2 nn⟩
      have s2 : Stp B ρ Z1 M1 a1 Z2 M2 (a1.set i (some (s.put d'))) := by
       refine ⟨le', ⟨by simp [s1.inv.len], hd2, fun j t es => ?_, fun j j' k1 t t' hne h1 h2 h3 h4 => ?_, fun j d k1 h1 h2 => ?_, Nat.le_trans s1.inv.bM le.len⟩, fun j t es => ?_, fun j t es => ?_⟩
       ·rcases set_get es with ⟨rfl, rfl⟩ | ⟨hji, es⟩
        ·refine ⟨_, hρ, ?_⟩
         cases s <;> first | exact ⟨k, rfl, hot2⟩ | cases hm
        ·obtain ⟨v, hv, q⟩ := s1.inv.at_ j t es
         refine ⟨v, hv, ?_⟩
         have tr : ∀ {k1 d1}, v = .ref k1 -> Hot Z1 M1 k1 d1 -> Hot Z2 M2 k1 d1 := fun {k1 d1} hv1 hh => by
          subst hv1
          have hne : k1 ≠ k := fun z => s1.inv.sep i j k s t (fun z => hji z.symm) hs hm hρ es (z ▸ hv)
          obtain ⟨q1, q2⟩ := lone k1 hh.lt hne
          obtain ⟨nz, o, ho, ro⟩ := hh
          exact ⟨fun z => nz (q2.mp z), o, q1.trans ho, ro.mono (le'.zz s1.inv) (le'.mm s1.inv)⟩
         cases t with
         | fz d => exact Den.mono (le'.zz s1.inv) (le'.mm s1.inv) q
         | _ => obtain ⟨k1, hv1, hh⟩ := q; exact ⟨k1, hv1, tr hv1 hh⟩
       ·have q4 : ∃ t0 : Sl, a1[j']? = some (some t0) := by
         rcases set_get h4 with ⟨rfl, _⟩ | ⟨_, z⟩
         ·exact ⟨s, hs⟩
         ·exact ⟨_, z⟩
        obtain ⟨t0, h0⟩ := q4
        rcases set_get h1 with ⟨rfl, rfl⟩ | ⟨_, z⟩
        ·exact s1.inv.sep _ j' k1 s t0 hne hs hm h3 h0
        ·exact s1.inv.sep j j' k1 t t0 hne z h2 h3 h0
       ·rcases set_get h1 with ⟨rfl, q⟩ | ⟨_, z⟩
        ·cases s with
         | own d0 => exact s1.inv.base _ d0 k1 hs h2
         | _ => cases q
        ·exact s1.inv.base j d k1 z h2
       ·by_cases hji : i = j
        ·subst hji
         rw [hs] at es
         cases es
         exact ⟨_, set_at hs, .put hm⟩
        ·exact ⟨t, by rw [List.getElem?_set_ne hji]; exact es, .refl t⟩
       ·rcases set_get es with ⟨rfl, _⟩ | ⟨_, z⟩
        ·exact ⟨_, hs⟩
        ·exact ⟨_, z⟩
      refine ⟨v, M2, Z2, by simp only [eA, f1]; exact f2, s1.trans s2, (rr.av fun i' t k2 h1 h2 => ?_).less s1.le.len⟩
      rcases set_get h1 with ⟨rfl, _⟩ | ⟨_, z⟩
      ·exact hl1 _ s k2 hs h2
      ·exact hl1 _ _ k2 z h2
     ·cases e
    ·cases e
   ·cases e
  ·cases e
end Pu
namespace Pu
open PySem PySem.Spec PyProof.Rows L2 NdefX GenE Sh
def wipeA (a : AEnv) : List Nat -> AEnv
 | [] => a
 | v :: vs => (wipeA a vs).set v none
def unwipe (a a2 : AEnv) : List Nat -> AEnv
 | [] => a2
 | v :: vs => match a[v]? with
  | some x => (unwipe a a2 vs).set v x
  | none => unwipe a a2 vs
theorem wipeE_len {ρ : Sh.Env} : ∀ {vs : List Nat}, (wipeE ρ vs).length = ρ.length
 | [] => rfl
 | v :: vs => by unfold wipeE; simp [wipeE_len (vs := vs)]
theorem wipeA_len {a : AEnv} : ∀ {vs : List Nat}, (wipeA a vs).length = a.length
 | [] => rfl
 | v :: vs => by unfold wipeA; simp [wipeA_len (vs := vs)]
theorem unwipe_len {a a2 : AEnv} : ∀ {vs : List Nat}, (unwipe a a2 vs).length = a2.length
 | [] => rfl
 | v :: vs => by
  unfold unwipe
  split
  ·simp [unwipe_len (vs := vs)]
  ·exact unwipe_len
theorem wipeE_ne {ρ : Sh.Env} {j : Nat} : ∀ {vs : List Nat}, j ∉ vs -> (wipeE ρ vs)[j]? = ρ[j]?
 | [], _ => rfl
 | v :: vs, h => by
  unfold wipeE
  rw [List.getElem?_set_ne fun (z : v = j) => h (z ▸ List.mem_cons_self)]
  exact wipeE_ne fun z => h (.tail _ z)
theorem wipeA_ne {a : AEnv} {j : Nat} : ∀ {vs : List Nat}, j ∉ vs -> (wipeA a vs)[j]? = a[j]?
 | [], _ => rfl
 | v :: vs, h => by
  unfold wipeA
  rw [List.getElem?_set_ne fun (z : v = j) => h (z ▸ List.mem_cons_self)]
  exact wipeA_ne fun z => h (.tail _ z)
theorem wipeA_in {a : AEnv} {j : Nat} {s : Sl} : ∀ {vs : List Nat}, (wipeA a vs)[j]? = some (some s) -> j ∉ vs
 | [], _ => by simp
 | v :: vs, h => by
  unfold wipeA at h
  by_cases hv : v = j
  ·subst hv
   rw [List.getElem?_set] at h
   simp at h
  ·rw [List.getElem?_set_ne hv] at h
   have := wipeA_in h
   simp [this]
   exact fun z => hv z.symm
theorem unwipe_ne {a a2 : AEnv} {j : Nat} : ∀ {vs : List Nat}, j ∉ vs -> (unwipe a a2 vs)[j]? = a2[j]?
 | [], _ => rfl
 | v :: vs, h => by
  unfold unwipe
  split
  ·rw [List.getElem?_set_ne fun (z : v = j) => h (z ▸ List.mem_cons_self)]
   exact unwipe_ne fun z => h (.tail _ z)
  ·exact unwipe_ne fun z => h (.tail _ z)
theorem unwipe_in {a a2 : AEnv} {j : Nat} (hl : a2.length = a.length) : ∀ {vs : List Nat}, j ∈ vs -> (unwipe a a2 vs)[j]? = a[j]?
 | v :: vs, h => by
  unfold unwipe
  by_cases hv : v = j
  ·subst hv
   split
   ·rename_i x hx
    rw [List.getElem?_set_self (by rw [unwipe_len, hl]; exact (List.getElem?_eq_some_iff.mp hx).1), hx]
   ·rename_i hx
    rw [hx, List.getElem?_eq_none_iff, unwipe_len, hl]
    exact List.getElem?_eq_none_iff.mp hx
  ·have hj : j ∈ vs := by
    rcases List.mem_cons.mp h with z | z
    ·exact absurd z.symm hv
    ·exact z
   split
   ·rw [List.getElem?_set_ne hv]; exact unwipe_in hl hj
   ·exact unwipe_in hl hj
/-- targets that only set slots of vs -/
structure Tg (g : Fg) (pg : Pg) (vs : List Nat) : Prop where
 e : ∀ v ρ M ρ' M', g v ρ M = some (ρ', M') -> ρ'.length = ρ.length /\ ∀ j, j ∉ vs -> ρ'[j]? = ρ[j]?
 a : ∀ d a a', pg d a = some a' -> a'.length = a.length /\ ∀ j : Nat, j ∉ vs -> a'[j]? = a[j]?
theorem tg_n (i : Nat) {vs : List Nat} (h : i ∈ vs := by decide) : Tg (gN i) (pgN i) vs := by
 refine ⟨fun v ρ M ρ' M' e => ?_, fun d a a' e => ?_⟩
 ·cases e
  exact ⟨by simp, fun j hj => List.getElem?_set_ne fun (z : i = j) => hj (z ▸ h)⟩
 ·unfold pgN at e
  split at e
  ·cases e
   exact ⟨by simp, fun j hj => List.getElem?_set_ne fun (z : i = j) => hj (z ▸ h)⟩
  ·cases e
def lcA (g : Pg) (t : Pt) (p : Pe) (vs : List Nat) : List Dv -> AEnv -> List Dv -> Option (List Dv × AEnv)
 | [], a, acc => some (acc, a)
 | d :: ds, a, acc => (g d a).bind fun a1 => (t a1).bind fun r => if r.1 = true then (pK p r.2).bind fun s => match s.1 with
     | .v false y => if acc.length < lim then lcA g t p vs ds (wipeA s.2 vs) (acc ++ [y]) else none
     | _ => none
  else lcA g t p vs ds (wipeA r.2 vs) acc
def fzB (a : AEnv) : List Nat -> Bool
 | [] => true
 | v :: vs => (match a[v]? with
  | some (some (.fz _)) => true
  | some (some _) => false
  | _ => true) && fzB a vs
def pLc (vs : List Nat) (pi : Pi) (g : Pg) (t : Pt) (p : Pe) : Pe := fun a => (pi a).bind fun r => if fzB r.2.2 vs = true then (lcA g t p vs r.1 (wipeA r.2.2 vs) []).map fun s => (.v true (.lst s.1), unhold (unwipe r.2.2 s.2 vs) r.2.1) else none
theorem fzB_in {a : AEnv} {j : Nat} {s : Sl} (e : a[j]? = some (some s)) : ∀ {vs : List Nat}, fzB a vs = true -> j ∈ vs -> ∃ d, s = .fz d
 | v :: vs, h, hj => by
  unfold fzB at h
  rw [Bool.and_eq_true] at h
  rcases List.mem_cons.mp hj with rfl | hj
  ·rw [e] at h
   cases s with
   | fz d => exact ⟨d, rfl⟩
   | _ => cases h.1
  ·exact fzB_in e h.2 hj
section
variable {B : Nat} {ρ ρ1 ρw : Sh.Env} {Z Z1 Z2 : Nat -> Prop} {M M1 M2 : Mem} {a a1 a2 : AEnv} {vs : List Nat}
theorem Inv.rewipe (inv : Inv B Z M ρ1 a) (hl : ρ1.length = ρ.length) (h : ∀ j, j ∉ vs -> ρ1[j]? = ρ[j]?) : Inv B Z M ρ (wipeA a vs) := by
 have q : ∀ {j : Nat} {s : Sl}, (wipeA a vs)[j]? = some (some s) -> a[j]? = some (some s) /\ ρ1[j]? = ρ[j]? := fun {j s} e => by
  have hj := wipeA_in e
  exact ⟨by rw [<- wipeA_ne hj]; exact e, h j hj⟩
 refine ⟨by rw [wipeA_len, <- hl, inv.len], inv.dom, fun j s e => ?_, fun i j k s t hne e1 e2 e3 e4 => ?_, fun i d k e1 e2 => ?_, inv.bM⟩
 ·obtain ⟨e', hr⟩ := q e
  obtain ⟨v, hv, r⟩ := inv.at_ j s e'
  exact ⟨v, hr ▸ hv, r⟩
 ·obtain ⟨e1', hr⟩ := q e1
  obtain ⟨e4', hr'⟩ := q e4
  rw [<- hr']
  exact inv.sep i j k s t hne e1' e2 (hr ▸ e3) e4'
 ·obtain ⟨e1', hr⟩ := q e1
  exact inv.base i d k e1' (hr ▸ e2)
/-- a thing that no slot has is changed -/
theorem Inv.poke {k : Nat} {o : Ob} (inv : Inv B Z M ρ a) (nz : ¬ Z k) (hs : ∀ (i : Nat) (s : Sl), a[i]? = some (some s) -> ρ[i]? ≠ some (some (.ref k))) : Inv B Z (M.set k o) ρ a := by
 have mm : ∀ j : Nat, Z j -> (M.set k o)[j]? = M[j]? := fun j z => List.getElem?_set_ne fun (h : k = j) => nz (h.symm ▸ z)
 refine ⟨inv.len, fun j z => by simp; exact inv.dom j z, fun j s e => ?_, inv.sep, inv.base, by simp; exact inv.bM⟩
 obtain ⟨v, hv, r⟩ := inv.at_ j s e
 refine ⟨v, hv, ?_⟩
 cases s with
 | fz d => exact Den.mono (fun _ z => z) mm r
 | _ =>
  obtain ⟨k1, rfl, nz1, o1, ho1, r1⟩ := r
  have hne : k ≠ k1 := fun z => hs j _ e (z ▸ hv)
  exact ⟨k1, rfl, nz1, o1, (List.getElem?_set_ne hne).trans ho1, r1.mono (fun _ z => z) mm⟩
end
theorem lc_main {src : Src} {g : Fg} {pg : Pg} {t : Ft} {u : Pt} {f : Fe} {p : Pe} {vs : List Nat} (hg : AG g pg) (htg : Tg g pg vs) (ht : AT t u) (hf : AE f p) {B : Nat} {ρw : Sh.Env} {Z0 : Nat -> Prop} {M0 : Mem} {a0 : AEnv} {ds : List Dv} (inv0 : Inv B Z0 M0 ρw a0) (hsrc : SrcR ρw a0 Z0 M0 src ds) (h0 : ∀ (j : Nat) (s : Sl), a0[j]? = some (some s) -> j ∉ vs) :
  ∀ (m i n : Nat) (Z : Nat -> Prop) (M : Mem) (a : AEnv) (accv : List Vl) (acc acc' : List Dv) (a' : AEnv), ds.length - i <= m -> ds.length <= i + n -> Stp B ρw Z0 M0 a0 Z M a -> M[M0.length]? = some (.lst accv) -> DenA Z M accv acc -> ¬ Z M0.length -> lcA pg u p vs (ds.drop i) a acc = some (acc', a') ->
  ∃ M' Z' accv', lcL src g t f M0.length ρw n i M = some M' /\ Stp B ρw Z0 M0 a0 Z' M' a' /\ M'[M0.length]? = some (.lst accv') /\ DenA Z' M' accv' acc' /\ ¬ Z' M0.length := by
 obtain ⟨K, xs, hK, ra0, hs⟩ := hsrc
 intro m
 have stop : ∀ (i n : Nat) (Z : Nat -> Prop) (M : Mem) (a : AEnv) (accv : List Vl) (acc acc' : List Dv) (a' : AEnv), ds.length <= i -> Stp B ρw Z0 M0 a0 Z M a -> M[M0.length]? = some (.lst accv) -> DenA Z M accv acc -> ¬ Z M0.length -> lcA pg u p vs (ds.drop i) a acc = some (acc', a') ->
  ∃ M' Z' accv', lcL src g t f M0.length ρw n i M = some M' /\ Stp B ρw Z0 M0 a0 Z' M' a' /\ M'[M0.length]? = some (.lst accv') /\ DenA Z' M' accv' acc' /\ ¬ Z' M0.length := by
  intro i n Z M a accv acc acc' a' hi st hk hac nz e
  rw [List.drop_eq_nil_of_le hi] at e
  cases e
  have hx : xs[i]? = none := by rw [List.getElem?_eq_none_iff, ra0.length]; exact hi
  have hsM : src M = some xs := hs M fun k hk' => st.le.keep k (hK k hk').1 (hK k hk').2
  refine ⟨M, Z, accv, ?_, st, hk, hac, nz⟩
  cases n <;> simp only [lcL, hsM, hx]
 induction m with
 | zero =>
  intro i n Z M a accv acc acc' a' hm hn
  exact stop i n Z M a accv acc acc' a' (by omega)
 | succ m ih =>
  intro i n Z M a accv acc acc' a' hm hn st hk hac nz e
  by_cases hi : ds.length <= i
  ·exact stop i n Z M a accv acc acc' a' hi st hk hac nz e
  ·have hi' : i < ds.length := by omega
   have hsM : src M = some xs := hs M fun k hk' => st.le.keep k (hK k hk').1 (hK k hk').2
   have ra := ra0.mono (st.le.zz inv0) (st.le.mm inv0)
   rw [List.drop_eq_getElem_cons hi'] at e
   obtain ⟨n, rfl⟩ : ∃ n', n = n' + 1 := ⟨n - 1, by omega⟩
   unfold lcA at e
   obtain ⟨a1, e1, e⟩ := Option.bind_eq_some_iff.mp e
   obtain ⟨x, hx, rx⟩ := ra.get (List.getElem?_eq_getElem hi')
   obtain ⟨ρ1, M1, Z1, f1, s1⟩ := hg _ _ _ _ _ _ _ _ st.inv rx e1
   obtain ⟨lρ, tρ⟩ := htg.e _ _ _ _ _ f1
   obtain ⟨la, ta⟩ := htg.a _ _ _ e1
   obtain ⟨⟨b, a2⟩, e2, e⟩ := Option.bind_eq_some_iff.mp e
   obtain ⟨M2, Z2, f2, s2⟩ := ht _ _ _ _ _ _ _ s1.inv e2
   have ha : ∀ (j : Nat) (s : Sl), a[j]? = some (some s) -> j ∉ vs := fun j s es => by
    obtain ⟨s', hs'⟩ := st.back j s es
    exact h0 j s' hs'
   -- one turn, as a step of the env itself
   have turn : ∀ {Zx Mx ax}, StS B ρw Z M a ρ1 Zx Mx ax -> (∀ (j : Nat) (s : Sl), a1[j]? = some (some s) -> ∃ s', ax[j]? = some (some s') /\ Ch s s') -> (∀ (j : Nat) (s' : Sl), ax[j]? = some (some s') -> ∃ s, a1[j]? = some (some s)) -> Stp B ρw Z M a Zx Mx (wipeA ax vs) := by
    intro Zx Mx ax ss hch hbk
    refine ⟨ss.le, ss.inv.rewipe lρ tρ, fun j s es => ?_, fun j s es => ?_⟩
    ·have hj := ha j s es
     obtain ⟨s', h1, h2⟩ := hch j s (by rw [ta j hj]; exact es)
     exact ⟨s', by rw [wipeA_ne hj]; exact h1, h2⟩
    ·have hj := wipeA_in es
     rw [wipeA_ne hj] at es
     obtain ⟨s', h1⟩ := hbk j s es
     rw [ta j hj] at h1
     exact ⟨s', h1⟩
   have nosl : ∀ {ax : AEnv} {Zx Mx}, Stp B ρw Z0 M0 a0 Zx Mx ax -> ∀ (j : Nat) (s : Sl), ax[j]? = some (some s) -> ρw[j]? ≠ some (some (.ref M0.length)) := fun {ax Zx Mx} sx j s es c => by
    obtain ⟨s', hs'⟩ := sx.back j s es
    exact Nat.lt_irrefl _ (inv0.lt hs' c)
   have nmu : ¬ Mu ρw a M0.length := fun ⟨j, s, h1, _, h3⟩ => nosl st j s h1 h3
   have klt := (List.getElem?_eq_some_iff.mp hk).1
   cases b with
   | false =>
    have ss := s1.trans s2.st
    have tu := turn ss s2.ch s2.back
    have hk2 := (ss.le.keep _ klt nmu).trans hk
    have nz2 : ¬ Z2 M0.length := fun z => nz ((ss.le.fz _ klt nmu).mp z)
    obtain ⟨M', Z', accv', g1, g2⟩ := ih (i + 1) n Z2 M2 _ accv acc acc' a' (by omega) (by omega) (st.trans tu) hk2 (hac.mono (ss.le.zz st.inv) (ss.le.mm st.inv)) nz2 e
    refine ⟨M', Z', accv', ?_, g2⟩
    simp only [lcL, hsM, hx, f1, f2]
    exact g1
   | true =>
    obtain ⟨⟨y, a3⟩, e3, e⟩ := Option.bind_eq_some_iff.mp e
    obtain ⟨v, M3, Z3, f3, s3, r3⟩ := (ae_k hf) _ _ _ _ _ _ _ s2.inv e3
    cases y with
    | pl _ => cases e
    | v ow d =>
     cases ow with
     | true => cases e
     | false =>
      simp only at e
      split at e
      ·rename_i hl
       have s23 := s2.trans s3
       have ss := s1.trans s23.st
       have tu := turn ss s23.ch s23.back
       have hk3 := (ss.le.keep _ klt nmu).trans hk
       have nz3 : ¬ Z3 M0.length := fun z => nz ((ss.le.fz _ klt nmu).mp z)
       have st3 := st.trans tu
       have hac3 : DenA Z3 M3 (accv ++ [v]) (acc ++ [d]) := (hac.mono (ss.le.zz st.inv) (ss.le.mm st.inv)).append (.one r3)
       have mm : ∀ j : Nat, Z3 j -> (M3.set M0.length (.lst (accv ++ [v])))[j]? = M3[j]? := fun j z => List.getElem?_set_ne fun (h : M0.length = j) => nz3 (h.symm ▸ z)
       have st4 : Stp B ρw Z0 M0 a0 Z3 (M3.set M0.length (.lst (accv ++ [v]))) (wipeA a3 vs) :=
        ⟨⟨by simp; exact st3.le.len, fun k hk hm => by rw [List.getElem?_set_ne (by omega)]; exact st3.le.keep k hk hm, st3.le.fz⟩, st3.inv.poke nz3 (nosl st3), st3.ch, st3.back⟩
       have klt3 := (List.getElem?_eq_some_iff.mp hk3).1
       obtain ⟨M', Z', accv', g1, g2⟩ := ih (i + 1) n Z3 _ _ (accv ++ [v]) (acc ++ [d]) acc' a' (by omega) (by omega) st4 (List.getElem?_set_self klt3) (hac3.mono (fun _ z => z) mm) nz3 e
       refine ⟨M', Z', accv', ?_, g2⟩
       simp only [lcL, hsM, hx, f1, f2, f3, hk3, hac.length]
       rw [if_pos hl]
       exact g1
      ·cases e
theorem ae_lc {vs : List Nat} {fi : Fi} {pi : Pi} {g : Fg} {pg : Pg} {t : Ft} {u : Pt} {f : Fe} {p : Pe} (hi : AI fi pi) (hg : AG g pg) (htg : Tg g pg vs) (ht : AT t u) (hf : AE f p) : AE (eLc vs fi g t f) (pLc vs pi pg u p) := by
 intro B Z M ρ a y a' inv e
 unfold pLc at e
 obtain ⟨⟨ds, h, a1⟩, e1, e⟩ := Option.bind_eq_some_iff.mp e
 split at e
 ·rename_i hfz
  obtain ⟨⟨acc, a2⟩, e2, e⟩ := Option.map_eq_some_iff.mp e
  cases e
  simp only at hfz e2
  obtain ⟨src, n, M1, Z1, a0, f1, s1, hr, hn, hs⟩ := hi _ _ _ _ _ _ _ _ inv e1
  have inv1 : Inv B Z1 M1 ρ a1 := hr.inv s1.inv
  have invw : Inv B Z1 M1 (wipeE ρ vs) (wipeA a1 vs) := inv1.rewipe wipeE_len.symm fun j hj => (wipeE_ne hj).symm
  have muw : ∀ {k}, Mu (wipeE ρ vs) (wipeA a1 vs) k -> Mu ρ a1 k := fun {k} ⟨j, s, h1, h2, h3⟩ => by
   have hj := wipeA_in h1
   exact ⟨j, s, by rw [<- wipeA_ne hj]; exact h1, h2, by rw [<- wipeE_ne hj]; exact h3⟩
  have hsw : SrcR (wipeE ρ vs) (wipeA a1 vs) Z1 M1 src ds := by
   obtain ⟨K, xs, hK, ra, hh⟩ := hs
   exact ⟨K, xs, fun k hk => ⟨(hK k hk).1, fun m => (hK k hk).2 (muw m)⟩, ra, hh⟩
  have nz0 : ¬ Z1 M1.length := fun z => Nat.lt_irrefl _ (inv1.dom _ z)
  obtain ⟨M2, Z2, accv, g1, g2, g3, g4, g5⟩ := lc_main hg htg ht hf invw hsw (fun j s es => wipeA_in es) ds.length 0 n Z1 (M1 ++ [.lst []]) (wipeA a1 vs) [] [] acc a2 (by omega) (by omega) (.app invw) (by simp) .nil nz0 (by rw [List.drop_zero]; exact e2)
  -- the env again
  have len2 : a2.length = a1.length := by rw [<- g2.inv.len, wipeE_len, inv1.len]
  have le2 : Le (Mu ρ a1) Z1 M1 Z2 M2 := g2.le.weak fun k m => .inl (muw m)
  have atj : ∀ {j : Nat} {s : Sl}, (unwipe a1 a2 vs)[j]? = some (some s) -> (j ∈ vs /\ a1[j]? = some (some s) /\ ∃ d, s = .fz d) \/ (j ∉ vs /\ a2[j]? = some (some s)) := fun {j s} es => by
   by_cases hj : j ∈ vs
   ·rw [unwipe_in len2 hj] at es
    exact .inl ⟨hj, es, fzB_in es hfz hj⟩
   ·rw [unwipe_ne hj] at es
    exact .inr ⟨hj, es⟩
  have live1 : ∀ {j : Nat} {s : Sl}, (unwipe a1 a2 vs)[j]? = some (some s) -> ∃ s', a1[j]? = some (some s') := fun {j s} es => by
   rcases atj es with ⟨_, h1, _⟩ | ⟨hj, h1⟩
   ·exact ⟨_, h1⟩
   ·obtain ⟨s', h2⟩ := g2.back j s h1
    rw [wipeA_ne hj] at h2
    exact ⟨_, h2⟩
  have inv2 : Inv B Z2 M2 ρ (unwipe a1 a2 vs) := by
   refine ⟨by rw [unwipe_len, len2, inv1.len], g2.inv.dom, fun j s es => ?_, fun i j k s t hne h1 h2 h3 h4 c => ?_, fun i d k h1 h2 => ?_, g2.inv.bM⟩
   ·rcases atj es with ⟨_, h1, d, rfl⟩ | ⟨hj, h1⟩
    ·obtain ⟨v, hv, q⟩ := inv1.at_ j _ h1
     exact ⟨v, hv, Den.mono (le2.zz inv1) (le2.mm inv1) q⟩
    ·obtain ⟨v, hv, q⟩ := g2.inv.at_ j s h1
     exact ⟨v, by rw [<- wipeE_ne hj]; exact hv, q⟩
   ·rcases atj h1 with ⟨_, _, d, rfl⟩ | ⟨hi', h1'⟩
    ·cases h2
    ·have h3' : (wipeE ρ vs)[i]? = some (some (.ref k)) := by rw [wipeE_ne hi']; exact h3
     rcases atj h4 with ⟨_, h4', d, rfl⟩ | ⟨hj', h4'⟩
     ·have hot := g2.inv.hot ⟨i, s, h1', h2, h3'⟩
      obtain ⟨v, hv, q⟩ := inv1.at_ j _ h4'
      rw [c] at hv
      cases hv
      cases q with
      | ref z _ _ => exact hot.1 (le2.zz inv1 _ z)
     ·exact g2.inv.sep i j k s t hne h1' h2 h3' h4' (by rw [wipeE_ne hj']; exact c)
   ·rcases atj h1 with ⟨_, _, d, z⟩ | ⟨hi', h1'⟩
    ·cases z
    ·exact g2.inv.base i d k h1' (by rw [wipeE_ne hi']; exact h2)
  have st2 : Stp B ρ Z1 M1 a1 Z2 M2 (unwipe a1 a2 vs) := by
   refine ⟨le2, inv2, fun j s es => ?_, fun j s es => live1 es⟩
   by_cases hj : j ∈ vs
   ·exact ⟨s, by rw [unwipe_in len2 hj]; exact es, .refl s⟩
   ·obtain ⟨s', h1, h2⟩ := g2.ch j s (by rw [wipeA_ne hj]; exact es)
    exact ⟨s', by rw [unwipe_ne hj]; exact h1, h2⟩
  have un := st2.st.unhold s1.inv hr
  have st3 : Stp B ρ Z1 M1 a0 Z2 M2 (unhold (unwipe a1 a2 vs) h) := by
   refine ⟨un.le, un.inv, ?_, ?_⟩
   ·rcases h with _ | ⟨i, s⟩
    ·cases hr; exact st2.ch
    ·obtain ⟨h1, h2, rfl⟩ := hr
     intro j t es
     obtain ⟨s2, hs2, _⟩ := st2.ch i _ (set_at h1)
     by_cases hj : i = j
     ·subst hj
      rw [h1] at es
      cases es
      exact ⟨s, set_at hs2, .refl s⟩
     ·obtain ⟨s', h3, h4⟩ := st2.ch j t (by rw [List.getElem?_set_ne hj]; exact es)
      exact ⟨s', by show (List.set _ i (some s))[j]? = _; rw [List.getElem?_set_ne hj]; exact h3, h4⟩
   ·rcases h with _ | ⟨i, s⟩
    ·cases hr; exact st2.back
    ·have hr0 := hr
     obtain ⟨h1, h2, rfl⟩ := hr
     intro j t es
     rcases set_get es with ⟨rfl, rfl⟩ | ⟨_, z⟩
     ·exact ⟨_, h1⟩
     ·obtain ⟨s', h3⟩ := st2.back j t z
      exact hr0.live h3
  refine ⟨.ref M1.length, M2, Z2, by simp only [eLc, f1, g1], s1.trans st3, ?_⟩
  refine ⟨_, rfl, s1.le.len, ⟨g5, _, g3, .lst g4⟩, fun j s es c => ?_⟩
  obtain ⟨s', hs'⟩ := st3.back j s es
  exact Nat.lt_irrefl _ (s1.inv.lt hs' c)
 ·cases e
end Pu
namespace EnT
open PySem PySem.Spec PyProof.Rows L2
theorem made {v : Value} {ob : Obj} {HH : Heap -> Prop} (Bg : Begins v ob HH) : Meets (Builtin.«enumerate.__new__» ⟨[.type "enumerate", v], []⟩) (fun _ R s => HH s.heap /\
   R (.ok (.ret (.ref (s.heap.push ob).objs.size))) { s with heap := (s.heap.push ob).push { cls := .type "enumerate", data := .fields #[.none, .bool false, .ref s.heap.objs.size, rawInt 0, .none, .none] } }) := by
 refine .of_wp fun prog w A R st hh => ?_
 obtain ⟨hp, gs, dr, tks, ost⟩ := st
 obtain ⟨hH, hR⟩ := hh
 have sube := sub_enumerate
 have it1 : ∀ {A1 : Around} {E1 : Value -> Shared -> Prop} {Q1 : Value -> Shared -> Prop}, Q1 (.ref hp.objs.size) ⟨hp.push ob, gs, dr, tks, ost⟩ -> wpAny (model prog w) A1 (pyIter v) Q1 E1 ⟨hp, gs, dr, tks, ost⟩ :=
  fun z => Bg.iter prog w _ _ ⟨hp, gs, dr, tks, ost⟩ _ hH z
 wp_walk using it1
 refine wpAny_stack_any fun sk => wpAny_pure ?_
 split
 ·rename_i cc _ _ _ _ _
  cases (cc == Value.type "enumerate") <;> (wp_walk using it1; exact ⟨_, rfl, hR⟩)
 ·wp_walk using it1
  exact ⟨_, rfl, hR⟩
section
variable {prog : Program} {w : World} {A : Around} {E : Value -> Shared -> Prop} {s : Shared}
theorem called {t : Addr} {items : Array Value} {Q : Value -> Shared -> Prop} (ht : s.heap.IsTuple t items)
  (k : ∀ h', IsEnum h' (s.heap.objs.size + 1) s.heap.objs.size 0 .none -> h'.IsTupleIter s.heap.objs.size t 0 -> (∀ b u, s.heap.get? b = some u -> h'.get? b = some u) -> Q (.ref (s.heap.objs.size + 1)) { s with heap := h' }) :
  wpAny (model prog w) A (call (.type "enumerate") [.ref t]) Q E s := by
 refine callType_new F.called_enumerate (by decide) (F.typeCall_enumerate_1 _) (F.newCall_enumerate_1 _) (fun ob => F.args_object_init_2 ob _) F.entry_enumerate_new (made (begins_tuple t items)) ⟨ht, ?_⟩
 have sz : (s.heap.push { cls := .type "tuple_iterator", data := .fields #[.ref t, .int 0 0] }).objs.size = s.heap.objs.size + 1 := Heap.size_push ..
 show _ /\ _
 rw [sz]
 have en : IsEnum ((s.heap.push { cls := .type "tuple_iterator", data := .fields #[.ref t, .int 0 0] }).push { cls := .type "enumerate", data := .fields #[.none, .bool false, .ref s.heap.objs.size, rawInt 0, .none, .none] }) (s.heap.objs.size + 1) s.heap.objs.size 0 .none := by
  have z := Heap.get?_push_size (s.heap.push { cls := .type "tuple_iterator", data := .fields #[.ref t, .int 0 0] }) (o := { cls := .type "enumerate", data := .fields #[.none, .bool false, .ref s.heap.objs.size, rawInt 0, .none, .none] }) rfl
  rw [sz] at z
  exact z
 exact ⟨⟨_, en, rfl⟩, k _ en ⟨_, Heap.get?_push_of_some _ (Heap.get?_push_size _ rfl), rfl, rfl⟩ fun b u x => Heap.get?_push_of_some _ (Heap.get?_push_of_some _ x)⟩
end
theorem over {prog : Program} {w : World} {A : Around} (hh : A.handled = none) (it t : Addr) (items : Array Value) (i : Nat) (hi : items[i]? = none) :
  Draws prog w A it [it, t] i (fun _ _ => False) (fun j h => j = i /\ h.IsTupleIter it t i /\ h.IsTuple t items) where
 live := fun _ _ st => let ⟨u, hu, _⟩ := st.2.1; ⟨u, hu⟩
 frame := fun _ _ _ st kp => ⟨st.1, st.2.1.at fun u x => kp it (by simp) u x, st.2.2.at fun u x => kp t (by simp) u x⟩
 item := fun j s Q E hj st _ => absurd st.1 (Nat.ne_of_lt hj)
 done := fun s Q E st hE => RZ.nextOf_tuple_end hh st.2.1 st.2.2 hi hE
/-- the tuple at a, each item in a new pair -/
def ItT (K : PySem.W.Frag) (a : Addr) : It where
 go := fun i H => ∃ (xs : List V) (x : V), SqT K H a xs /\ xs[i]? = some x
 yld := fun i H v H' => ∃ T x, v = .ref T /\ H T = none /\ H' = upd H T (.tup [.int (i : Nat), x]) /\ ∀ xs, SqT K H a xs -> xs[i]? = some x
 stop := fun i H => ∃ xs : List V, SqT K H a xs /\ xs.length <= i
theorem turn {P : Program} {w : World} {K : PySem.W.Frag} {elts : List Expr} {kk : Nat} {tpos : Pos} (a e it : Addr) (hne : e ≠ it) (ha : a ≠ it) (hea : e ≠ a) :
  Turn P w K (.Tuple elts kk tpos) (ItT K a) [e, it] e (fun i h => (∃ old, IsEnum h e it ((i : Nat) : Int) old) /\ h.IsTupleIter it a i) where
 mem := by simp
 obj := fun i h st b hb => by
  obtain ⟨⟨old, he⟩, ⟨o, ho, hc, hd⟩⟩ := st
  have hb' : b = e \/ b = it := by simpa using hb
  rcases hb' with rfl | rfl
  ·exact ⟨_, he, fun v q => nomatch q⟩
  ·exact ⟨o, ho, fun v q => by rw [hd] at q; cases q⟩
 keep := fun i h h' st kp => by
  obtain ⟨⟨old, he⟩, hit⟩ := st
  exact ⟨⟨old, kp e (by simp) _ he⟩, hit.at fun o q => kp it (by simp) o q⟩
 item := by
  intro X hP hw hK hc i pins s σ H E I hf st hg
  subst hP hw hK
  obtain ⟨⟨old, he⟩, hit⟩ := st
  obtain ⟨xs, x, sq, hx⟩ := hg
  obtain ⟨its, rv, pt, hz⟩ := I.tuple sq
  obtain ⟨u, hu, ru⟩ := rv.get hx
  have hel : e < s.heap.objs.size := Heap.lt_size he
  have hil : it < s.heap.objs.size := by obtain ⟨_, q, _⟩ := hit; exact Heap.lt_size q
  have hlt : i < its.toArray.size := by
   have := (List.getElem?_eq_some_iff.mp hu).1
   simpa using this
  refine wpAny_pyNext_enum_itemD (Draws.tuple (A := X.A.in1) (I.ok.hd hc) it a ha its.toArray) he ⟨hit, pt⟩ hlt hne (by simp [hne, hea]) fun y h' tk hy ho st' hT hsz hk => ?_
  have ey : y = u := by
   have h1 : its[i]? = some y := by simpa using hy
   rw [hu] at h1
   exact (Option.some.inj h1).symm
  subst ey
  refine ⟨_, rfl, wpAny_letOwnedTupleGo_enum (s := { s with heap := h', toks := tk + 1 }) ho fun h'' he' sb => ?_⟩
  have hT2 : h''.get? s.heap.objs.size = some { cls := .type "tuple", data := .seq #[.int i tk, y] } := (sb.2 _ (Nat.ne_of_gt hel)).trans hT
  have new : ObjOk X.prog X.w (upd H s.heap.objs.size (.tup [.int (i : Nat), x])) h'' s.heap.objs.size (.tup [.int (i : Nat), x]) :=
   ⟨by show 2 <= sizeLine; decide, [.int i tk, y], .cons ⟨_, rfl⟩ (.cons ru .nil), ⟨_, hT2, rfl, _, rfl⟩⟩
  have I1 : Inv X pins σ (upd H s.heap.objs.size (.tup [.int (i : Nat), x])) { s with heap := h'', toks := tk + 1 } :=
   I.turnedNew (ch := [e, it]) (fun b ob hb q => (sb.2 b (fun z => hb (by simp [z]))).trans (hk b ob (fun z => hb (by simp [z])) (fun z => hb (by simp [z])) q)) hf (Nat.le_refl _) new
  refine ⟨.ref s.heap.objs.size, _, I1, rfl, ⟨_, x, rfl, I.hok.fresh (Nat.le_refl _), rfl, fun ys hy => by rw [I.tuple_inj hy sq]; exact hx⟩, ⟨⟨y, ?_⟩, st'.1.at fun o q => (sb.2 it (Ne.symm hne)).trans q⟩, fun b hb => ?_⟩
  ·have e1 : ((i + 1 : Nat) : Int) = (i : Int) + 1 := by omega
   rw [e1]
   exact he'
  ·have hb2 : b < s.heap.objs.size := by
    have hb' : b = e \/ b = it := by simpa using hb
    rcases hb' with rfl | rfl
    ·exact hel
    ·exact hil
   rw [upd_ne (Nat.ne_of_lt hb2)]
   exact (hf b hb).1
 done := by
  intro X hP hw hK hc i pins s σ H E I hf st hg
  subst hP hw hK
  obtain ⟨⟨old, he⟩, hit⟩ := st
  obtain ⟨xs, sq, hx⟩ := hg
  obtain ⟨its, rv, pt, hz⟩ := I.tuple sq
  obtain ⟨f0, f1, f2, f3, f4, f5⟩ := hf it (by simp)
  have hl := rv.length
  exact wpAny_pyNext_enum_endD (over (A := X.A.in1) (I.ok.hd hc) it a its.toArray i (by simp; omega)) he ⟨rfl, hit, pt⟩ fun h' eb => ⟨rfl, I.turned (t' := s.toks) (fun b o hb q => eb b o hb q) f0 f1 f3 f4 f5⟩
 self := fun A i s Q E st h => let ⟨⟨_, he⟩, _⟩ := st; wpAny_pyIter_enum he h
def iEnT (K : PySem.W.Frag) (ta : TA) : TI := fun σ H R => ta σ H fun vs H1 => ∃ a xs, vs = [.ref a] /\ SqT K H1 a xs /\ R (ItT K a) H1
theorem pi {X : Cx} {e : Expr} {ta : TA} {p pos tpos : Pos} {elts : List Expr} {kk : Nat} (hg : Gl X "enumerate") (hm : X.mg "enumerate" = none) (ha : PA X [e] ta) (hs : starEach [e] X.env = [(false, eval e X.env)] := by rfl) :
  PI X (.Tuple elts kk tpos) (.Call (.Name "enumerate" p) [e] [] pos) (iEnT X.K ta) := by
 refine ⟨fun pins s σ H R I hh => ?_⟩
 refine Call_ (ld_blt I hg hm boot_enumerate (PyProof.Rows.callWith_type1 (thn (ha.run pos pins s σ H _ I hh) fun us s1 ⟨vs, H1, I1, r1, q1⟩ => ?_) hs rfl))
 obtain ⟨a, xs, ex, sq, hR⟩ := q1
 subst ex
 cases r1 with
 | cons r rr =>
  cases rr
  cases r
  obtain ⟨its, rv, pt, hz⟩ := I1.tuple sq
  have hat : a < s1.heap.objs.size := by obtain ⟨_, q, _⟩ := pt; exact Heap.lt_size q
  refine called pt fun h' he hit kp => wpAny_pyIter_enum he ?_
  have I2 : Inv X pins σ H1 { s1 with heap := h' } := I1.kept (t' := s1.toks) kp
  refine ⟨s1.heap.objs.size + 1, [s1.heap.objs.size + 1, s1.heap.objs.size], _, _, H1, rfl, I2, turn a (s1.heap.objs.size + 1) s1.heap.objs.size (Nat.succ_ne_self _) (Nat.ne_of_lt hat) (Nat.ne_of_gt (Nat.lt_succ_of_lt hat)), ⟨⟨.none, he⟩, hit⟩, fun b hb => ?_, hR⟩
  have hb' : b = s1.heap.objs.size + 1 \/ b = s1.heap.objs.size := by simpa using hb
  have hle : s1.heap.objs.size <= b := by rcases hb' with rfl | rfl <;> omega
  exact I1.fpOk hle (I1.hok.fresh hle)
end EnT
namespace Sh
open PySem PySem.Spec PyProof.Rows L2 NdefX GenE
def enL (xs : List Vl) : List Vl := xs.mapIdx fun i x => .tup .trk [.int (i : Nat), x]
def iEnum (f : Fe) : Fi := fun ρ M => match f ρ M with
 | some (.tup _ xs, M1) => some (fun _ => some (enL xs), xs.length, M1)
 | some (.ref k, M1) => match seqAt M1 k with
  | some xs => some (fun M => (seqAt M k).map enL, xs.length, M1)
  | none => none
 | _ => none
theorem enL_at {xs : List Vl} {i : Nat} {y : Vl} (h : (enL xs)[i]? = some y) : ∃ x, xs[i]? = some x /\ y = .tup .trk [.int (i : Nat), x] := by
 unfold enL at h
 rw [List.getElem?_mapIdx] at h
 obtain ⟨x, hx, rfl⟩ := Option.map_eq_some_iff.mp h
 exact ⟨x, hx, rfl⟩
theorem enL_len {xs : List Vl} : (enL xs).length = xs.length := by simp [enL]
section
variable {F : Fam} {e a b c o tg iter : Expr} {f fa fb fc : Fe} {pos p apos tpos : Pos} {elts : List Expr} {kk : Nat}
theorem si_enum (hg : Glb F "enumerate") (hm : F.mg "enumerate" = none) (h : SE F a f) (hs : ∀ env, starEach [a] env = [(false, eval a env)] := by intro _; rfl) : SI F (.Tuple elts kk tpos) (.Call (.Name "enumerate" p) [a] [] pos) (iEnum f) := by
 obtain ⟨te, pe, se⟩ := h
 refine ⟨_, fun i => PI.or (F.hK i ▸ EnT.pi (X := F.X i) (hg.gl i) (by rw [F.hmg i]; exact hm) (pa_cons (pe i) pa_nil (hs _)) (hs _)) (F.hK i ▸ pi_enum (X := F.X i) (hg.gl i) (by rw [F.hmg i]; exact hm) (pa_cons (pe i) pa_nil (hs _)) (hs _)), fun σ H μ ρ M src n M' R h rσ rs q => ?_⟩
 unfold iEnum at h
 split at h
 ·cases h
  refine .inl (se σ H μ ρ M _ _ _ (by assumption) rσ rs fun w1 μ1 H1 e1 r1 s1 => ?_)
  cases r1 with
  | @tup a _ xs ws sq r _ =>
   refine ⟨a, ws, rfl, sq, q _ μ1 H1 e1 s1 fun i μ2 H2 M2 ys e2 s2 hy => ?_⟩
   cases hy
   have sq2 := e2.sqT sq
   refine ⟨fun hn => ⟨ws, sq2, get_none (by rw [enL_len]; exact r.length) hn⟩, fun x hx => ?_⟩
   obtain ⟨x0, hx0, rfl⟩ := enL_at hx
   obtain ⟨w, hw, rv⟩ := (r.ext e2).get hx0
   refine ⟨⟨ws, w, sq2, hw⟩, fun w' H' hy => ?_⟩
   obtain ⟨T, y, rfl, nT, rfl, hy⟩ := hy
   have := hy ws sq2
   rw [hw] at this
   cases this
   obtain ⟨s3, e3, r3⟩ := s2.tup nT (.cons (.int _) (.cons rv .nil))
   exact ⟨e3, r3, s3⟩
 ·split at h
  ·cases h
   refine .inr (se σ H μ ρ M _ _ _ (by assumption) rσ rs fun w1 μ1 H1 e1 r1 s1 => ?_)
   cases r1 with
   | ref ha =>
    rename_i k xs hs' a hf
    obtain ⟨o0, g1, g2⟩ := seqAt_some (by assumption)
    obtain ⟨ws0, sq0, _⟩ := s1.seq g1 g2 ha
    refine ⟨_, ws0, rfl, sq0, q _ μ1 H1 e1 s1 fun i μ2 H2 M2 ys e2 s2 hy => ?_⟩
    obtain ⟨xs2, hx2, rfl⟩ := Option.map_eq_some_iff.mp hy
    obtain ⟨o1, g3, g4⟩ := seqAt_some hx2
    obtain ⟨ws, sq, r⟩ := s2.seq g3 g4 (e2.at ha)
    refine ⟨fun hn => ⟨ws, sq, get_none (by rw [enL_len]; exact r.length) hn⟩, fun x hx => ?_⟩
    obtain ⟨x0, hx0, rfl⟩ := enL_at hx
    obtain ⟨w, hw, rv⟩ := r.get hx0
    refine ⟨⟨ws, w, sq, hw⟩, fun w' H' hy => ?_⟩
    obtain ⟨T, y, rfl, nT, rfl, hy⟩ := hy
    have := hy ws sq
    rw [hw] at this
    cases this
    obtain ⟨s3, e3, r3⟩ := s2.tup nT (.cons (.int _) (.cons rv .nil))
    exact ⟨e3, r3, s3⟩
  ·cases h
 ·cases h
end
end Sh
namespace SetG
open PySem PySem.Spec PyProof.Rows L2
def gst {K : Type} [DecidableEq K] (l : List K) (k : K) : List K := if k ∈ l then l else l ++ [k]
def gmet {K : Type} [DecidableEq K] (xs : List K) : List K := xs.foldl gst []
abbrev Each {α β : Type} (R : α -> β -> Prop) := PySem.W.EachIs R
section
variable {P : Program} {w : World} {K : Type} [DecidableEq K] {knd : KeyKind P w K}
def Ent (knd : KeyKind P w K) (k : K) (e : Int × Value) : Prop := knd.is k e.2 = true /\ e.1 = knd.hash k /\ e.2.scannable = true
def Is (knd : KeyKind P w K) (h : Heap) (a : Addr) (ks : List K) : Prop :=
 ∃ o es ep t, h.get? a = some o /\ o.ExactSet /\ o.data = .set es ep t /\ (∃ ls, Each (Ent knd) ls es.toList /\ ls.Perm ks) /\ es.size < scanBound /\ t.fits es.size = true /\ Ris t.place.toList /\ (w.params.followText "set-order" = true \/ t.led = true)
theorem Is.at {h h' : Heap} {a : Addr} {ks : List K} (x : Is knd h a ks) (kp : ∀ o, h.get? a = some o -> h'.get? a = some o) : Is knd h' a ks := by
 obtain ⟨o, es, ep, t, ho, r⟩ := x
 exact ⟨o, es, ep, t, kp o ho, r⟩
variable {A : Around} {E : Value -> Shared -> Prop} {s : Shared}
end
end SetG
namespace SetG
open PySem PySem.Spec PyProof.Rows L2
abbrev sLe (a b : Str) : Bool := decide (a.cps.toList <= b.cps.toList)
end SetG
namespace Sh
open PySem PySem.Spec PyProof.Rows L2 NdefX GenE
end Sh
namespace Pu
open PySem PySem.Spec PyProof.Rows L2 NdefX GenE Sh
def lendA (a : AEnv) (j : Nat) : Option Sl := match a[j]? with
 | some (some (.fz d)) => some (.fz d)
 | some (some s) => some (.bw s.val)
 | _ => none
def gen0A (n : Nat) (js : List Nat) (a : AEnv) : AEnv := List.replicate n none ++ js.map (lendA a)
theorem gen_at {n : Nat} {js : List Nat} {a : AEnv} {ρ : Sh.Env} {i : Nat} {s : Sl} (h : (gen0A n js a)[i]? = some (some s)) : ∃ j, lendA a j = some s /\ (gen0 n js ρ)[i]? = some (slotE ρ j) := by
 unfold gen0A at h
 by_cases hi : i < n
 ·rw [List.getElem?_append_left (by simpa using hi), List.getElem?_replicate, if_pos hi] at h
  cases h
 ·rw [List.getElem?_append_right (by simpa using hi), List.getElem?_map, List.length_replicate] at h
  obtain ⟨j, hj, e⟩ := Option.map_eq_some_iff.mp h
  refine ⟨j, e, ?_⟩
  unfold gen0
  rw [List.getElem?_append_right (by simpa using hi), List.getElem?_map, List.length_replicate, hj]
  rfl
section
variable {B : Nat} {ρ ρ1 : Sh.Env} {Z Z1 Z2 : Nat -> Prop} {M M1 M2 : Mem} {a a1 a2 : AEnv} {n : Nat} {js : List Nat}
theorem gen_cold {i : Nat} {s : Sl} (h : (gen0A n js a)[i]? = some (some s)) : s.mut = false := by
 obtain ⟨j, e, _⟩ := gen_at (ρ := []) h
 unfold lendA at e
 split at e
 ·cases e; rfl
 ·cases e; rfl
 ·cases e
theorem gen_inv (inv : Inv B Z M ρ a) : Inv M.length Z M (gen0 n js ρ) (gen0A n js a) := by
 refine ⟨by simp [gen0, gen0A], inv.dom, fun i s h => ?_, fun i j k s t hne h1 h2 => ?_, fun i d k h1 => ?_, Nat.le_refl _⟩
 ·obtain ⟨j, e, hr⟩ := gen_at (ρ := ρ) h
  have q : ∃ t : Sl, a[j]? = some (some t) /\ (s = t /\ (∃ d, t = .fz d) \/ s = .bw t.val /\ ∀ d, t ≠ .fz d) := by
   unfold lendA at e
   split at e
   ·rename_i d hd; cases e; exact ⟨_, hd, .inl ⟨rfl, d, rfl⟩⟩
   ·rename_i t nf hd; cases e; exact ⟨t, hd, .inr ⟨rfl, nf⟩⟩
   ·cases e
  obtain ⟨t, ht, q⟩ := q
  obtain ⟨v, hv, r⟩ := inv.at_ j t ht
  refine ⟨v, by rw [hr]; unfold slotE; rw [hv], ?_⟩
  rcases q with ⟨rfl, _⟩ | ⟨rfl, nf⟩
  ·exact r
  ·cases t with
   | fz d => exact absurd rfl (nf d)
   | _ => exact r
 ·rw [gen_cold h1] at h2
  cases h2
 ·have := gen_cold h1
  cases this
theorem gen_mu {k : Nat} (h : Mu (gen0 n js ρ) (gen0A n js a) k) : False := by
 obtain ⟨i, s, h1, h2, _⟩ := h
 rw [gen_cold h1] at h2
 cases h2
end
def allA (stop : Bool) (g : Pg) (t : Pt) (p : Pe) : List Dv -> AEnv -> Option Bool
 | [], _ => some (!stop)
 | d :: ds, a => (g d a).bind fun a1 => (t a1).bind fun r => if r.1 = true then (p r.2).bind fun s => match rd s.2 s.1 with
     | some (.bl b) => if b = stop then some stop else allA stop g t p ds s.2
     | _ => none
  else allA stop g t p ds r.2
def pAllG (stop : Bool) (n : Nat) (js : List Nat) (pi : Pi) (g : Pg) (t : Pt) (p : Pe) : Pe := fun a => (pi a).bind fun r => (allA stop g t p r.1 (gen0A n js r.2.2)).map fun b => (.v false (.bl b), unhold r.2.2 r.2.1)
theorem all_main {stop : Bool} {g : Fg} {pg : Pg} {t : Ft} {u : Pt} {f : Fe} {p : Pe} (hg : AG g pg) (ht : AT t u) (hf : AE f p) (src : Src) (ds : List Dv) : ∀ (m i n : Nat) (B : Nat) (Z : Nat -> Prop) (M : Mem) (ρ : Sh.Env) (a : AEnv) (b : Bool), ds.length - i <= m -> ds.length <= i + n -> Inv B Z M ρ a -> SrcR ρ a Z M src ds -> allA stop pg u p (ds.drop i) a = some b -> ∃ ρ' M' Z' a', allL stop src g t f n i ρ M = some (b, M') /\ StS B ρ Z M a ρ' Z' M' a' := by
 intro m
 have stp : ∀ (i n : Nat) (B : Nat) (Z : Nat -> Prop) (M : Mem) (ρ : Sh.Env) (a : AEnv) (b : Bool), ds.length <= i -> Inv B Z M ρ a -> SrcR ρ a Z M src ds -> allA stop pg u p (ds.drop i) a = some b -> ∃ ρ' M' Z' a', allL stop src g t f n i ρ M = some (b, M') /\ StS B ρ Z M a ρ' Z' M' a' := by
  intro i n B Z M ρ a b hi inv hs e
  obtain ⟨K, xs, hK, ra, hsrc⟩ := id hs
  rw [List.drop_eq_nil_of_le hi] at e
  cases e
  have hx : xs[i]? = none := by rw [List.getElem?_eq_none_iff, ra.length]; exact hi
  refine ⟨ρ, M, Z, a, ?_, .refl inv⟩
  cases n <;> simp only [allL, hsrc M fun _ _ => rfl, hx]
 induction m with
 | zero => intro i n B Z M ρ a b hm hn; exact stp i n B Z M ρ a b (by omega)
 | succ m ih =>
  intro i n B Z M ρ a b hm hn inv hs e
  by_cases hi : ds.length <= i
  ·exact stp i n B Z M ρ a b hi inv hs e
  ·obtain ⟨K, xs, hK, ra, hsrc⟩ := id hs
   have hi' : i < ds.length := by omega
   rw [List.drop_eq_getElem_cons hi'] at e
   obtain ⟨n, rfl⟩ : ∃ n', n = n' + 1 := ⟨n - 1, by omega⟩
   unfold allA at e
   obtain ⟨a1, e1, e⟩ := Option.bind_eq_some_iff.mp e
   obtain ⟨x, hx, rx⟩ := ra.get (List.getElem?_eq_getElem hi')
   obtain ⟨ρ1, M1, Z1, f1, s1⟩ := hg _ _ _ _ _ _ _ _ inv rx e1
   obtain ⟨⟨bb, a2⟩, e2, e⟩ := Option.bind_eq_some_iff.mp e
   obtain ⟨M2, Z2, f2, s2⟩ := ht _ _ _ _ _ _ _ s1.inv e2
   have s12 := s1.trans s2.st
   cases bb with
   | false =>
    obtain ⟨ρ3, M3, Z3, a3, f3, s3⟩ := ih (i + 1) n _ _ _ _ _ _ (by omega) (by omega) s12.inv (hs.step inv s12) e
    exact ⟨ρ3, M3, Z3, a3, by simp only [allL, hsrc M fun _ _ => rfl, hx, f1, f2]; exact f3, s12.trans s3⟩
   | true =>
    obtain ⟨⟨y, a3⟩, e3, e⟩ := Option.bind_eq_some_iff.mp e
    obtain ⟨v, M3, Z3, f3, s3, r3⟩ := hf _ _ _ _ _ _ _ s2.inv e3
    have s13 := s12.trans s3.st
    simp only at e
    split at e
    ·rename_i cc hr
     have hv := r3.rd s3.inv hr
     cases hv
     split at e
     ·rename_i hcs
      cases e
      exact ⟨_, M3, Z3, _, by simp only [allL, hsrc M fun _ _ => rfl, hx, f1, f2, f3]; rw [if_pos hcs], s13⟩
     ·rename_i hcs
      obtain ⟨ρ4, M4, Z4, a4, f4, s4⟩ := ih (i + 1) n _ _ _ _ _ _ (by omega) (by omega) s13.inv (hs.step inv s13) e
      exact ⟨ρ4, M4, Z4, a4, by simp only [allL, hsrc M fun _ _ => rfl, hx, f1, f2, f3]; rw [if_neg hcs]; exact f4, s13.trans s4⟩
    ·cases e
theorem gen_src {ρ : Sh.Env} {a : AEnv} {Z : Nat -> Prop} {M : Mem} {src : Src} {ds : List Dv} {n : Nat} {js : List Nat} (h : SrcR ρ a Z M src ds) : SrcR (gen0 n js ρ) (gen0A n js a) Z M src ds := by
 obtain ⟨K, xs, hK, ra, hh⟩ := h
 exact ⟨K, xs, fun k hk => ⟨(hK k hk).1, fun m => gen_mu m⟩, ra, hh⟩
theorem ae_allG {stop : Bool} {n : Nat} {js : List Nat} {fi : Fi} {pi : Pi} {g : Fg} {pg : Pg} {t : Ft} {u : Pt} {f : Fe} {p : Pe} (hi : AI fi pi) (hg : AG g pg) (ht : AT t u) (hf : AE f p) : AE (eAllG stop n js fi g t f) (pAllG stop n js pi pg u p) := by
 intro B Z M ρ a y a' inv e
 unfold pAllG at e
 obtain ⟨⟨ds, h, a1⟩, e1, e⟩ := Option.bind_eq_some_iff.mp e
 obtain ⟨b, e2, e⟩ := Option.map_eq_some_iff.mp e
 cases e
 simp only at e2
 obtain ⟨src, m, M1, Z1, a0, f1, s1, hr, hn, hs⟩ := hi _ _ _ _ _ _ _ _ inv e1
 obtain ⟨ρ2, M2, Z2, a2, f2, s2⟩ := all_main hg ht hf src ds ds.length 0 m _ _ _ _ _ _ (by omega) (by omega) (gen_inv (hr.inv s1.inv)) (gen_src hs) (by rw [List.drop_zero]; exact e2)
 rw [unhold_eq hr]
 have le : Le (fun _ => False) Z1 M1 Z2 M2 := s2.le.weak fun k m => (gen_mu m).elim
 exact ⟨.bl b, M2, Z2, by simp only [eAllG, f1, f2], s1.trans (.grow s1.inv le s2.inv.dom), .bl _⟩
def colA (g : Pg) (t : Pt) (p : Pe) : List Dv -> AEnv -> List Dv -> Option (List Dv)
 | [], _, acc => some acc
 | d :: ds, a, acc => (g d a).bind fun a1 => (t a1).bind fun r => if r.1 = true then (pK p r.2).bind fun s => match s.1 with
     | .v false y => if acc.length < lim then colA g t p ds s.2 (acc ++ [y]) else none
     | _ => none
  else colA g t p ds r.2 acc
theorem col_main {g : Fg} {pg : Pg} {t : Ft} {u : Pt} {f : Fe} {p : Pe} (hg : AG g pg) (ht : AT t u) (hf : AE f p) {src : Src} {Z0 : Nat -> Prop} {M0 : Mem} {ρ0 : Sh.Env} {a0 : AEnv} {ds : List Dv} (hd0 : ∀ k : Nat, Z0 k -> k < M0.length) (hsrc : SrcR ρ0 a0 Z0 M0 src ds) : ∀ (m i n : Nat) (B : Nat) (Z : Nat -> Prop) (M : Mem) (ρ : Sh.Env) (a : AEnv) (accv : List Vl) (acc acc' : List Dv), ds.length - i <= m -> ds.length <= i + n -> Inv B Z M ρ a -> Le (fun _ => False) Z0 M0 Z M -> (∀ k, Mu ρ a k -> M0.length <= k) -> (∀ (j : Nat) (s : Sl), a[j]? = some (some s) -> ρ[j]? ≠ some (some (.ref M0.length))) -> M[M0.length]? = some (.lst accv) -> DenA Z M accv acc -> ¬ Z M0.length -> colA pg u p (ds.drop i) a acc = some acc' ->
  ∃ M' Z' accv', colL src g t f M0.length n i ρ M = some M' /\ Le (fun _ => False) Z0 M0 Z' M' /\ (∀ k : Nat, Z' k -> k < M'.length) /\ M'[M0.length]? = some (.lst accv') /\ DenA Z' M' accv' acc' /\ ¬ Z' M0.length := by
 obtain ⟨K, xs, hK, ra0, hs⟩ := hsrc
 intro m
 have stp : ∀ (i n : Nat) (B : Nat) (Z : Nat -> Prop) (M : Mem) (ρ : Sh.Env) (a : AEnv) (accv : List Vl) (acc acc' : List Dv), ds.length <= i -> Inv B Z M ρ a -> Le (fun _ => False) Z0 M0 Z M -> M[M0.length]? = some (.lst accv) -> DenA Z M accv acc -> ¬ Z M0.length -> colA pg u p (ds.drop i) a acc = some acc' ->
  ∃ M' Z' accv', colL src g t f M0.length n i ρ M = some M' /\ Le (fun _ => False) Z0 M0 Z' M' /\ (∀ k : Nat, Z' k -> k < M'.length) /\ M'[M0.length]? = some (.lst accv') /\ DenA Z' M' accv' acc' /\ ¬ Z' M0.length := by
  intro i n B Z M ρ a accv acc acc' hi inv le hk hac nz e
  rw [List.drop_eq_nil_of_le hi] at e
  cases e
  have hx : xs[i]? = none := by rw [List.getElem?_eq_none_iff, ra0.length]; exact hi
  have hsM : src M = some xs := hs M fun k hk' => le.keep k (hK k hk').1 (fun z => z)
  refine ⟨M, Z, accv, ?_, le, inv.dom, hk, hac, nz⟩
  cases n <;> simp only [colL, hsM, hx]
 induction m with
 | zero =>
  intro i n B Z M ρ a accv acc acc' hm hn inv le _ _
  exact stp i n B Z M ρ a accv acc acc' (by omega) inv le
 | succ m ih =>
  intro i n B Z M ρ a accv acc acc' hm hn inv le mu0 nosl hk hac nz e
  by_cases hi : ds.length <= i
  ·exact stp i n B Z M ρ a accv acc acc' hi inv le hk hac nz e
  ·have hi' : i < ds.length := by omega
   have hsM : src M = some xs := hs M fun k hk' => le.keep k (hK k hk').1 (fun z => z)
   have ra : DenA Z M xs ds := ra0.mono (fun k z => (le.fz k (hd0 k z) (fun z => z)).mpr z) (fun k z => le.keep k (hd0 k z) (fun z => z))
   rw [List.drop_eq_getElem_cons hi'] at e
   obtain ⟨n, rfl⟩ : ∃ n', n = n' + 1 := ⟨n - 1, by omega⟩
   unfold colA at e
   obtain ⟨a1, e1, e⟩ := Option.bind_eq_some_iff.mp e
   obtain ⟨x, hx, rx⟩ := ra.get (List.getElem?_eq_getElem hi')
   obtain ⟨ρ1, M1, Z1, f1, s1⟩ := hg _ _ _ _ _ _ _ _ inv rx e1
   obtain ⟨⟨bb, a2⟩, e2, e⟩ := Option.bind_eq_some_iff.mp e
   obtain ⟨M2, Z2, f2, s2⟩ := ht _ _ _ _ _ _ _ s1.inv e2
   have s12 := s1.trans s2.st
   have klt := (List.getElem?_eq_some_iff.mp hk).1
   have nmu : ¬ Mu ρ a M0.length := fun ⟨j, s, h1, _, h3⟩ => nosl j s h1 h3
   -- what a turn keeps
   have turn : ∀ {Zx Mx ax}, StS B ρ Z M a ρ1 Zx Mx ax -> Le (fun _ => False) Z0 M0 Zx Mx /\ (∀ k, Mu ρ1 ax k -> M0.length <= k) /\ (∀ (j : Nat) (s : Sl), ax[j]? = some (some s) -> ρ1[j]? ≠ some (some (.ref M0.length))) /\ Mx[M0.length]? = some (.lst accv) /\ DenA Zx Mx accv acc /\ ¬ Zx M0.length := by
    intro Zx Mx ax ss
    have nzx : ¬ Zx M0.length := fun z => nz ((ss.le.fz _ klt nmu).mp z)
    refine ⟨le.trans ss.le fun k m => .inr (mu0 k m), fun k m => ?_, fun j s es c => ?_, (ss.le.keep _ klt nmu).trans hk, hac.mono (ss.le.zz inv) (ss.le.mm inv), nzx⟩
    ·rcases ss.sub k m with z | z
     ·exact mu0 k z
     ·have := le.len; omega
    ·rcases ss.al j s _ es c klt with z | ⟨s', h1, h2⟩
     ·exact nzx z
     ·exact nosl j s' h1 h2
   cases bb with
   | false =>
    obtain ⟨t1, t2, t3, t4, t5, t6⟩ := turn s12
    obtain ⟨M', Z', accv', g1, g2⟩ := ih (i + 1) n B Z2 M2 ρ1 a2 accv acc acc' (by omega) (by omega) s12.inv t1 t2 t3 t4 t5 t6 e
    refine ⟨M', Z', accv', ?_, g2⟩
    simp only [colL, hsM, hx, f1, f2]
    exact g1
   | true =>
    obtain ⟨⟨y, a3⟩, e3, e⟩ := Option.bind_eq_some_iff.mp e
    obtain ⟨v, M3, Z3, f3, s3, r3⟩ := (ae_k hf) _ _ _ _ _ _ _ s2.inv e3
    cases y with
    | pl _ => cases e
    | v ow d =>
     cases ow with
     | true => cases e
     | false =>
      simp only at e
      split at e
      ·rename_i hl
       have s13 := s12.trans s3.st
       obtain ⟨t1, t2, t3, t4, t5, t6⟩ := turn s13
       have hac3 : DenA Z3 M3 (accv ++ [v]) (acc ++ [d]) := t5.append (.one r3)
       have mm : ∀ j : Nat, Z3 j -> (M3.set M0.length (.lst (accv ++ [v])))[j]? = M3[j]? := fun j z => List.getElem?_set_ne fun (h : M0.length = j) => t6 (h.symm ▸ z)
       have le4 : Le (fun _ => False) Z0 M0 Z3 (M3.set M0.length (.lst (accv ++ [v]))) := ⟨by simp; exact t1.len, fun k hk hm => by rw [List.getElem?_set_ne (by omega)]; exact t1.keep k hk hm, t1.fz⟩
       obtain ⟨M', Z', accv', g1, g2⟩ := ih (i + 1) n B Z3 _ ρ1 a3 (accv ++ [v]) (acc ++ [d]) acc' (by omega) (by omega) (s13.inv.poke t6 t3) le4 t2 t3 (List.getElem?_set_self (List.getElem?_eq_some_iff.mp t4).1) (hac3.mono (fun _ z => z) mm) t6 e
       refine ⟨M', Z', accv', ?_, g2⟩
       simp only [colL, hsM, hx, f1, f2, f3, t4, hac.length]
       rw [if_pos hl]
       exact g1
      ·cases e
def pColG (fin : List Dv -> Option (Bool × Dv)) (n : Nat) (js : List Nat) (pi : Pi) (g : Pg) (t : Pt) (p : Pe) : Pe := fun a => (pi a).bind fun r => (colA g t p r.1 (gen0A n js r.2.2) []).bind fun acc => (fin acc).map fun q => (.v q.1 q.2, unhold r.2.2 r.2.1)
def FinR (fin : Vl -> Mem -> Option (Vl × Mem)) (dfin : List Dv -> Option (Bool × Dv)) : Prop := ∀ (Z : Nat -> Prop) (M : Mem) (k : Nat) (xs : List Vl) (ds : List Dv) (o : Bool) (d : Dv), M[k]? = some (.lst xs) -> DenA Z M xs ds -> dfin ds = some (o, d) -> Res Z M d (fin (.ref k) M) o
theorem ae_colG {fin : Vl -> Mem -> Option (Vl × Mem)} {dfin : List Dv -> Option (Bool × Dv)} {n : Nat} {js : List Nat} {fi : Fi} {pi : Pi} {g : Fg} {pg : Pg} {t : Ft} {u : Pt} {f : Fe} {p : Pe} (hfin : FinR fin dfin) (hi : AI fi pi) (hg : AG g pg) (ht : AT t u) (hf : AE f p) : AE (eColG fin n js fi g t f) (pColG dfin n js pi pg u p) := by
 intro B Z M ρ a y a' inv e
 unfold pColG at e
 obtain ⟨⟨ds, h, a1⟩, e1, e⟩ := Option.bind_eq_some_iff.mp e
 obtain ⟨acc, e2, e⟩ := Option.bind_eq_some_iff.mp e
 obtain ⟨⟨o, d⟩, e3, e⟩ := Option.map_eq_some_iff.mp e
 cases e
 simp only at e2
 obtain ⟨src, m, M1, Z1, a0, f1, s1, hr, hn, hs⟩ := hi _ _ _ _ _ _ _ _ inv e1
 have inv1 : Inv B Z1 M1 ρ a1 := hr.inv s1.inv
 have ginv := gen_inv (n := n) (js := js) inv1
 have hnz : ¬ Z1 M1.length := fun z => Nat.lt_irrefl _ (inv1.dom _ z)
 obtain ⟨M2, Z2, accv, g1, g2, g3, g4, g5, g6⟩ := col_main hg ht hf inv1.dom (gen_src (n := n) (js := js) hs) ds.length 0 m _ Z1 (M1 ++ [.lst []]) (gen0 n js ρ) (gen0A n js a1) [] [] acc (by omega) (by omega) (Stp.app ginv).inv .app (fun k m => (gen_mu m).elim) (fun j s es c => Nat.lt_irrefl _ (ginv.lt es c)) (by simp) .nil hnz (by rw [List.drop_zero]; exact e2)
 have s2 := Stp.grow s1.inv g2 g3
 obtain ⟨v, M3, f3, s3, r3⟩ := (hfin Z2 M2 _ accv acc o d g4 g5 e3).go s2.inv
 rw [unhold_eq hr]
 refine ⟨v, M3, Z2, by simp only [eColG, f1, g1]; exact f3, (s1.trans s2).trans s3, r3.less (Nat.le_trans s1.le.len s2.le.len)⟩
def dFinT : List Dv -> Option (Bool × Dv) := fun ds => some (false, .tup .trk ds)
theorem r_finT : FinR finT dFinT := by
 intro Z M k xs ds o d hk r e
 cases e
 exact ⟨_, by simp only [finT, hk], .tup r⟩
def dFinS : List Dv -> Option (Bool × Dv) := fun ds => dSorted (.lst ds)
def enD (xs : List Dv) : List Dv := xs.mapIdx fun i x => .tup .trk [.int (i : Nat), x]
theorem DenA.en {Z : Nat -> Prop} {M : Mem} {xs : List Vl} {ds : List Dv} (h : DenA Z M xs ds) : DenA Z M (enL xs) (enD ds) := by
 have q : ∀ (n : Nat) {xs : List Vl} {ds : List Dv}, DenA Z M xs ds -> DenA Z M (xs.mapIdx fun i x => Vl.tup .trk [.int ((i + n : Nat) : Int), x]) (ds.mapIdx fun i x => Dv.tup .trk [.int ((i + n : Nat) : Int), x]) := by
  intro n xs ds h
  induction h using DenA.rec (motive_1 := fun _ _ _ => True) (motive_2 := fun _ _ _ => True) generalizing n with
  | nil => exact .nil
  | cons a b _ ih =>
   simp only [List.mapIdx_cons]
   refine .cons (.tup (.cons (.int _) (.cons a .nil))) ?_
   have e : ∀ i, i + 1 + n = i + (n + 1) := fun i => by omega
   simp only [e]
   exact ih (n + 1)
  | _ => trivial
 exact q 0 h
def piEnum (p : Pe) : Pi := fun a => (p a).bind fun r => match r.1 with
 | .v _ (.str _) => none
 | _ => (piSeq p a).map fun r => (enD r.1, r.2)
theorem ai_enum {f : Fe} {p : Pe} (hp : AE f p) : AI (iEnum f) (piEnum p) := by
 intro B Z M ρ a ds h a' inv e
 unfold piEnum at e
 obtain ⟨⟨x, ax⟩, e1, e⟩ := Option.bind_eq_some_iff.mp e
 obtain ⟨v, Mv, Zv, fv, sv, rv⟩ := hp _ _ _ _ _ _ _ inv e1
 have key : (∀ z, v ≠ .str z) -> ∀ {ds : List Dv} {h : Option (Nat × Sl)} {a' : AEnv}, (piSeq p a).map (fun r => (enD r.1, r.2)) = some (ds, h, a') -> ∃ src n M' Z' a1, iEnum f ρ M = some (src, n, M') /\ Stp B ρ Z M a Z' M' a1 /\ HoldR a1 a' h /\ ds.length <= n /\ SrcR ρ a' Z' M' src ds := by
  intro hns ds h a' e
  obtain ⟨⟨es, h2, a2⟩, e2, e⟩ := Option.map_eq_some_iff.mp e
  cases e
  obtain ⟨src, n, M1, Z1, a1, f1, s1, hr, hn, K, xs, hK, ra, hs⟩ := ai_seq hp _ _ _ _ _ _ _ _ inv e2
  refine ⟨fun M => (src M).map enL, n, M1, Z1, a1, ?_, s1, hr, by simp [enD]; exact hn, K, enL xs, hK, ra.en, fun M' h => by simp only [hs M' h, Option.map_some]⟩
  simp only [iSeq, fv] at f1
  simp only [Sh.iEnum, fv]
  cases v with
  | tup t ys => simp only at f1 ⊢; cases f1; rfl
  | str z => exact absurd rfl (hns z)
  | ref k =>
   simp only at f1 ⊢
   split at f1
   ·rename_i ys hy
    cases f1
    simp only [hy]
   ·cases f1
  | _ => cases f1
 cases x with
 | pl i =>
  refine key (fun z hz => ?_) e
  subst hz
  -- a slot with a text in it is fixed: not walked so
  obtain ⟨⟨es, h2, a2⟩, e2, _⟩ := Option.map_eq_some_iff.mp e
  unfold piSeq at e2
  rw [e1] at e2
  simp only [Option.bind_some] at e2
  obtain ⟨h1, t, ht⟩ := rv
  obtain ⟨v', hv', q⟩ := sv.inv.at_ i t ht
  rw [h1] at hv'
  cases hv'
  rw [ht] at e2
  cases t with
  | fz d => cases e2
  | _ => obtain ⟨k, hk, _⟩ := q; cases hk
 | v o d =>
  cases o with
  | true =>
   obtain ⟨k, rfl, _⟩ := rv
   refine key (fun z hz => by cases hz) ?_
   cases d <;> first | exact e | cases e
  | false =>
   cases d with
   | str z => cases e
   | _ =>
    refine key (fun z hz => ?_) e
    subst hz
    cases rv
def dSortedX : Dv -> Option (Bool × Dv)
 | .tup _ xs => dSorted (.lst xs)
 | d => dSorted d
theorem r_sortedX : Op1R vSortedX dSortedX := by
 intro Z M v d o r hv h
 cases d with
 | tup t ds =>
  simp only [dSortedX, dSorted] at h
  split at h
  ·split at h
   ·rename_i hq hc
    cases h
    obtain ⟨xs, rfl, ra⟩ := hv
    have e := mapO_den (n := 20) toD_eq ra
    exact ⟨_, by simp only [vSortedX, e, hq, if_pos hc], .lst (ra.srt _)⟩
   ·cases h
  ·cases h
 | lst ds =>
  have q := r_sorted Z M v (.lst ds) o r hv h
  obtain ⟨k, xs, rfl, _⟩ := hv
  exact q
 | _ => simp [dSortedX, dSorted] at h
def pSortSet (p : Pe) : Pe := fun a => (p a).bind fun r => match rd r.2 r.1 with
 | some (.lst xs) => (txtsD xs).bind fun ys => if ys.length <= 1000 then some (.v true (.lst (((SetG.gmet ys).mergeSort SetG.sLe).map Dv.str)), r.2) else none
 | _ => none
end Pu
namespace Pu
open PySem PySem.Spec PyProof.Rows L2 NdefX GenE Sh
section
variable {f g fa fb fc : Fe} {p q pa pb pc : Pe}
def pM1 (dop : Dv -> Dv -> Option (Bool × Dv)) (pa pb : Pe) : Pe := fun a => (pa a).bind fun r => (rd r.2 r.1).bind fun d0 => if d0.seq.isSome = true then (pb r.2).bind fun s => (rd s.2 r.1).bind fun d => (rd s.2 s.1).bind fun e => (dop d e).map fun q => (.v q.1 q.2, s.2) else none
end
/-- the law's function, without a store -/
theorem law_good {m : Fd} {p : Pd} (h : AD none m p) (hp : ∀ (d : Dv) (ns : List Int), (d = .lst (ns.map .int) \/ d = .fro (ns.map .int)) -> ns.length <= 63 -> (∀ z ∈ ns, Builtin.Int.intBits z <= 1048576) -> p [.fz d] = some ((false, .bl true), none)) :
  ∀ (o : Ob) (ns : List Int), o.seq = some (ns.map Vl.int) -> ns.length <= 63 -> (∀ z ∈ ns, Builtin.Int.intBits z <= 1048576) -> ∃ M, m [.ref 0] [o] = some (.bl true, M) := by
 intro o ns ho hl hb
 have denI : ∀ (Z : Nat -> Prop) (M : Mem) (l : List Int), DenA Z M (l.map Vl.int) (l.map Dv.int) := by
  intro Z M l
  induction l with
  | nil => exact .nil
  | cons x l ih => exact .cons (.int _) ih
 have q : ∃ d, (d = Dv.lst (ns.map .int) \/ d = .fro (ns.map .int)) /\ DenO (fun k => k = 0) [o] o d := by
  cases o with
  | lst xs => cases ho; exact ⟨_, .inl rfl, .lst (denI _ _ ns)⟩
  | fro xs => cases ho; exact ⟨_, .inr rfl, .fro (denI _ _ ns)⟩
  | dic _ => cases ho
  | dit _ => cases ho
  | ist _ => cases ho
  | fdi _ => cases ho
  | fdt _ => cases ho
 obtain ⟨d, hd, den⟩ := q
 have ar : ArgR none (fun k => k = 0) [o] [.ref 0] [.fz d] := by
  refine ⟨rfl, fun i s hs => ?_, fun j k e => (by cases e), fun j e => (by cases e)⟩
  cases i with
  | zero => cases hs; exact ⟨.ref 0, rfl, .ref rfl rfl den, rfl⟩
  | succ i => simp at hs
 obtain ⟨v, M', Z', f1, _, _, _, r⟩ := h (fun k => k = 0) [o] [.ref 0] [.fz d] (false, .bl true) none (fun k z => by simp [z]) ar (hp d ns hd hl hb)
 have r' : Rd Z' M' v (.bl true) := Den.rd r
 cases r'
 exact ⟨M', f1⟩
end Pu
namespace Pu
open PySem PySem.Spec PyProof.Rows L2 NdefX GenE Sh
def W {α : Type} (r : Option α) (Q : α -> Prop) : Prop := ∃ x, r = some x /\ Q x
theorem w_some {α : Type} {x : α} {Q : α -> Prop} : W (some x) Q = Q x := propext ⟨fun ⟨_, e, q⟩ => by cases e; exact q, fun q => ⟨_, rfl, q⟩⟩
theorem w_none {α : Type} {Q : α -> Prop} : W (none : Option α) Q = False := propext ⟨fun ⟨_, e, _⟩ => (by cases e), False.elim⟩
theorem w_bind {α β : Type} {r : Option α} {k : α -> Option β} {Q : β -> Prop} : W (r.bind k) Q = W r fun x => W (k x) Q := by
 cases r with
 | none => simp only [Option.bind_none, w_none]
 | some x => simp only [Option.bind_some, w_some]
theorem w_map {α β : Type} {r : Option α} {k : α -> β} {Q : β -> Prop} : W (r.map k) Q = W r fun x => Q (k x) := by
 cases r with
 | none => simp only [Option.map_none, w_none]
 | some x => simp only [Option.map_some, w_some]
theorem w_ite {α : Type} {c : Prop} [Decidable c] {r s : Option α} {Q : α -> Prop} : W (if c then r else s) Q = if c then W r Q else W s Q := by
 split <;> rfl
theorem w_if {α : Type} {c : Prop} [Decidable c] {r : α} {Q : α -> Prop} : W (if c then some r else none) Q = (c /\ Q r) := by
 by_cases h : c <;> simp [h, w_some, w_none]
theorem W.mono {α : Type} {r : Option α} {Q Q' : α -> Prop} (h : W r Q) (k : ∀ x, Q x -> Q' x) : W r Q' := let ⟨x, e, q⟩ := h; ⟨x, e, k x q⟩
theorem W.of {α : Type} {r : Option α} {x : α} {Q : α -> Prop} (e : r = some x) (q : Q x) : W r Q := ⟨x, e, q⟩
theorem W.eq {α : Type} {r : Option α} {x : α} (h : W r fun y => y = x) : r = some x := by obtain ⟨y, e, rfl⟩ := h; exact e
section
variable {a : AEnv} {Q : Av × AEnv -> Prop} {QT : Bool × AEnv -> Prop} {QA : List Av × AEnv -> Prop} {QS : AOut × AEnv -> Prop} {QG : AEnv -> Prop} {QD : Dv -> Prop} {p q pa pb pc : Pe} {u u' : Pt} {ua : Pa} {z z' : Ps}
def slotW (o : Option (Option Sl)) (i : Nat) (a : AEnv) (Q : Av × AEnv -> Prop) : Prop := match o with
 | some (some (.fz d)) => Q (.v false d, a)
 | some (some _) => Q (.pl i, a)
 | _ => False
theorem w_pVar {i : Nat} : W (pVar i a) Q = slotW a[i]? i a Q := by
 unfold pVar slotW
 rcases h : a[i]? with _ | _ | s
 ·simp only [h, w_none]
 ·simp only [h, w_none]
 ·cases s <;> simp only [h, w_none, w_some]
theorem s_fz {d : Dv} {i : Nat} : slotW (some (some (.fz d))) i a Q = Q (.v false d, a) := rfl
theorem s_own {d : Dv} {i : Nat} : slotW (some (some (.own d))) i a Q = Q (.pl i, a) := rfl
theorem s_io {d : Dv} {i : Nat} : slotW (some (some (.io d))) i a Q = Q (.pl i, a) := rfl
theorem s_bw {d : Dv} {i : Nat} : slotW (some (some (.bw d))) i a Q = Q (.pl i, a) := rfl
theorem s_hd {d : Dv} {i : Nat} : slotW (some (some (.hd d))) i a Q = Q (.pl i, a) := rfl
theorem w_pC {d : Dv} : W (pC d a) Q = Q (.v false d, a) := w_some
def fzW (o : Option (Option Sl)) (i : Nat) (a : AEnv) (Q : Av × AEnv -> Prop) : Prop := match o with
 | some (some (.fz d)) => Q (.v false d, a)
 | some (some (.own d)) => Q (.v false d, a.set i (some (.fz d)))
 | _ => False
theorem w_pFz {i : Nat} : W (pFz i a) Q = fzW a[i]? i a Q := by
 unfold pFz fzW
 rcases h : a[i]? with _ | _ | s
 ·simp only [h, w_none]
 ·simp only [h, w_none]
 ·cases s <;> simp only [h, w_none, w_some]
theorem z_fz {d : Dv} {i : Nat} : fzW (some (some (.fz d))) i a Q = Q (.v false d, a) := rfl
theorem z_own {d : Dv} {i : Nat} : fzW (some (some (.own d))) i a Q = Q (.v false d, a.set i (some (.fz d))) := rfl
def kW (Q : Av × AEnv -> Prop) : Av × AEnv -> Prop
 | (.v _ d, a) => Q (.v false d, a)
 | _ => False
theorem w_pK : W (pK p a) Q = W (p a) (kW Q) := by
 unfold pK
 rw [w_bind]
 congr 1
 funext ⟨x, a1⟩
 cases x with
 | v o d => simp only [w_some]; rfl
 | pl i => simp only [w_none]; rfl
theorem k_v {o : Bool} {d : Dv} : kW Q (.v o d, a) = Q (.v false d, a) := rfl
theorem r_v {o : Bool} {d : Dv} : W (rd a (.v o d)) QD = QD d := w_some
def plW (o : Option (Option Sl)) (Q : Dv -> Prop) : Prop := match o with
 | some (some s) => Q s.val
 | _ => False
theorem r_pl {i : Nat} : W (rd a (.pl i)) QD = plW a[i]? QD := by
 unfold rd plW
 rcases h : a[i]? with _ | _ | s <;> simp only [h, w_none, w_some]
theorem pl_fz {d : Dv} : plW (some (some (.fz d))) QD = QD d := rfl
theorem pl_own {d : Dv} : plW (some (some (.own d))) QD = QD d := rfl
theorem pl_io {d : Dv} : plW (some (some (.io d))) QD = QD d := rfl
theorem pl_bw {d : Dv} : plW (some (some (.bw d))) QD = QD d := rfl
theorem pl_hd {d : Dv} : plW (some (some (.hd d))) QD = QD d := rfl
theorem w_p1 {dop : Dv -> Option (Bool × Dv)} : W (p1 dop p a) Q = W (p a) fun r => W (rd r.2 r.1) fun d => W (dop d) fun q => Q (.v q.1 q.2, r.2) := by
 simp only [p1, w_bind, w_map]
theorem w_p2 {dop : Dv -> Dv -> Option (Bool × Dv)} : W (p2 dop pa pb a) Q = W (pa a) fun r => W (pb r.2) fun s => W (rd s.2 r.1) fun d => W (rd s.2 s.1) fun e => W (dop d e) fun q => Q (.v q.1 q.2, s.2) := by
 simp only [p2, w_bind, w_map]
theorem w_pM1 {dop : Dv -> Dv -> Option (Bool × Dv)} : W (pM1 dop pa pb a) Q = W (pa a) fun r => W (rd r.2 r.1) fun d0 => d0.seq.isSome = true /\ W (pb r.2) fun s => W (rd s.2 r.1) fun d => W (rd s.2 s.1) fun e => W (dop d e) fun q => Q (.v q.1 q.2, s.2) := by
 simp only [pM1, w_bind, w_map]
 congr 1
 funext r
 congr 1
 funext d0
 by_cases h : d0.seq.isSome = true
 ·simp only [h, if_true, w_bind, w_map, true_and]
 ·rw [if_neg h, w_none]
  simp [h]
def blW (QB : Bool -> Prop) : Dv -> Prop
 | .bl b => QB b
 | _ => False
theorem bl_bl {b : Bool} {QB : Bool -> Prop} : blW QB (.bl b) = QB b := rfl
def boW (QB : Bool -> Prop) : Bool × Dv -> Prop
 | (false, .bl b) => QB b
 | _ => False
theorem bo_bl {b : Bool} {QB : Bool -> Prop} : boW QB (false, .bl b) = QB b := rfl
theorem w_p3 {dop dop' : Dv -> Dv -> Option (Bool × Dv)} : W (p3 dop dop' pa pb pc a) Q = W (pa a) fun r => W (pb r.2) fun s => W (rd s.2 r.1) fun d => W (rd s.2 s.1) fun e => W (dop d e) (boW fun b => if b = true then W (pc s.2) fun t => W (rd t.2 s.1) fun e' => W (rd t.2 t.1) fun c => W (dop' e' c) fun q => Q (.v q.1 q.2, t.2) else Q (.v false (.bl false), s.2)) := by
 simp only [p3, w_bind]
 congr 1; funext r; congr 1; funext s; congr 1; funext d; congr 1; funext e; congr 1; funext ⟨o, w⟩
 cases o with
 | true => simp only [w_none]; rfl
 | false =>
  cases w with
  | bl b =>
   cases b
   ·simp only [w_some]; rfl
   ·simp only [w_bind, w_map, bo_bl, if_true]
  | _ => simp only [w_none]; rfl
theorem w_pAnd : W (pAnd p q a) Q = W (p a) fun r => W (rd r.2 r.1) (blW fun b => if b = true then W (q r.2) Q else Q (.v false (.bl false), r.2)) := by
 unfold pAnd
 rw [w_bind]
 congr 1; funext r
 rcases h : rd r.2 r.1 with _ | d
 ·simp only [h, w_none]
 ·cases d with
  | bl b => cases b <;> simp [h, w_some, bl_bl]
  | _ => simp only [h, w_some, w_none]; rfl
theorem w_pOr : W (pOr p q a) Q = W (p a) fun r => W (rd r.2 r.1) (blW fun b => if b = true then Q (.v false (.bl true), r.2) else W (q r.2) Q) := by
 unfold pOr
 rw [w_bind]
 congr 1; funext r
 rcases h : rd r.2 r.1 with _ | d
 ·simp only [h, w_none]
 ·cases d with
  | bl b => cases b <;> simp [h, w_some, bl_bl]
  | _ => simp only [h, w_some, w_none]; rfl
theorem w_pNot : W (pNot p a) Q = W (p a) fun r => W (rd r.2 r.1) (blW fun b => Q (.v false (.bl (!b)), r.2)) := by
 unfold pNot
 rw [w_bind]
 congr 1; funext r
 rcases h : rd r.2 r.1 with _ | d
 ·simp only [h, w_none]
 ·cases d with
  | bl b => simp only [h, w_some, bl_bl]
  | _ => simp only [h, w_some, w_none]; rfl
def inW (QI : Int -> Prop) : Dv -> Prop
 | .int b => QI b
 | _ => False
theorem in_int {b : Int} {QI : Int -> Prop} : inW QI (.int b) = QI b := rfl
theorem w_pNeg : W (pNeg p a) Q = W (p a) fun r => W (rd r.2 r.1) (inW fun b => Q (.v false (.int (-b)), r.2)) := by
 unfold pNeg
 rw [w_bind]
 congr 1; funext r
 rcases h : rd r.2 r.1 with _ | d
 ·simp only [h, w_none]
 ·cases d with
  | int b => simp only [h, w_some, in_int]
  | _ => simp only [h, w_some, w_none]; rfl
theorem w_pIsi {T : String} : W (pIsi T p a) Q = W (p a) fun r => W (rd r.2 r.1) fun d => W (tyD d) fun t => W (kitB t T) fun b => Q (.v false (.bl b), r.2) := by
 simp only [pIsi, w_bind, w_map]
theorem w_qV : W (qV p a) QT = W (p a) fun r => W (rd r.2 r.1) (blW fun b => QT (b, r.2)) := by
 unfold qV
 rw [w_bind]
 congr 1; funext r
 rcases h : rd r.2 r.1 with _ | d
 ·simp only [h, w_none]
 ·cases d with
  | bl b => simp only [h, w_some, bl_bl]
  | _ => simp only [h, w_some, w_none]; rfl
theorem w_qAn : W (qAn u u' a) QT = W (u a) fun r => if r.1 = true then W (u' r.2) QT else QT (false, r.2) := by
 simp only [qAn, w_bind, w_ite, w_some]
theorem w_qO : W (qO u u' a) QT = W (u a) fun r => if r.1 = true then QT (true, r.2) else W (u' r.2) QT := by
 simp only [qO, w_bind, w_ite, w_some]
theorem w_qN : W (qN u a) QT = W (u a) fun r => QT (!r.1, r.2) := by simp only [qN, w_map]
theorem w_qYs : W (qYs a) QT = QT (true, a) := w_some
theorem w_pIf : W (pIf u p q a) Q = W (u a) fun r => if r.1 = true then W (p r.2) Q else W (q r.2) Q := by simp only [pIf, w_bind, w_ite]
theorem w_paNil : W (paNil a) QA = QA ([], a) := w_some
theorem w_paCons : W (paCons p ua a) QA = W (p a) fun r => W (ua r.2) fun s => QA (r.1 :: s.1, s.2) := by simp only [paCons, w_bind, w_map]
theorem w_pT : W (pT ua a) Q = W (ua a) fun r => W (keptD r.1) fun ds => ds.length <= 1000 /\ Q (.v false (.tup .trk ds), r.2) := by simp only [pT, w_bind, w_if]
theorem w_pL : W (pL ua a) Q = W (ua a) fun r => W (keptD r.1) fun ds => ds.length <= 1000 /\ Q (.v true (.lst ds), r.2) := by simp only [pL, w_bind, w_if]
theorem kept_nil {QL : List Dv -> Prop} : W (keptD []) QL = QL [] := w_some
theorem kept_cons {d : Dv} {xs : List Av} {QL : List Dv -> Prop} : W (keptD (.v false d :: xs)) QL = W (keptD xs) fun ds => QL (d :: ds) := by simp only [keptD, w_map]
theorem w_poN {QO : Option Int × AEnv -> Prop} : W (poN a) QO = QO (none, a) := w_some
theorem w_poS {QO : Option Int × AEnv -> Prop} : W (poS p a) QO = W (p a) fun r => W (rd r.2 r.1) (inW fun i => QO (some i, r.2)) := by
 unfold poS
 rw [w_bind]
 congr 1; funext r
 rcases h : rd r.2 r.1 with _ | d
 ·simp only [h, w_none]
 ·cases d with
  | int b => simp only [h, w_some, in_int]
  | _ => simp only [h, w_some, w_none]; rfl
theorem w_pSl {l h : Po} : W (pSl p l h a) Q = W (p a) fun r => W (l r.2) fun s => W (h s.2) fun t => W (rd t.2 r.1) fun d => W (dSl d s.1 t.1) fun q => Q (.v q.1 q.2, t.2) := by simp only [pSl, w_bind, w_map]
theorem w_pDK : W (pDK a) Q = Q (.v true (.dic []), a) := w_some
theorem w_pDT : W (pDT a) Q = Q (.v true (.dit []), a) := w_some
/-- a slot with a list that may be changed -/
def mW (o : Option (Option Sl)) (Q : Sl × List Dv -> Prop) : Prop := match o with
 | some (some (.own (.lst xs))) => Q (.own (.lst xs), xs)
 | some (some (.io (.lst xs))) => Q (.io (.lst xs), xs)
 | _ => False
theorem w_mutL {i : Nat} {QM : Sl × List Dv -> Prop} : W (mutL a i) QM = mW a[i]? QM := by
 unfold mutL mW
 rcases h : a[i]? with _ | _ | s
 ·simp only [h, w_none]
 ·simp only [h, w_none]
 ·cases s with
  | own d => cases d <;> simp only [h, w_none, w_some]
  | io d => cases d <;> simp only [h, w_none, w_some]
  | _ => simp only [h, w_none]
theorem m_own {xs : List Dv} {QM : Sl × List Dv -> Prop} : mW (some (some (.own (.lst xs)))) QM = QM (.own (.lst xs), xs) := rfl
theorem m_io {xs : List Dv} {QM : Sl × List Dv -> Prop} : mW (some (some (.io (.lst xs)))) QM = QM (.io (.lst xs), xs) := rfl
def vW (QD : Dv -> AEnv -> Prop) : Av × AEnv -> Prop
 | (.v false d, a) => QD d a
 | _ => False
theorem v_v {d : Dv} {QD : Dv -> AEnv -> Prop} : vW QD (.v false d, a) = QD d a := rfl
theorem w_pApp {i : Nat} : W (pApp i p a) Q = mW a[i]? fun _ => W (pK p a) (vW fun d a1 => mW a1[i]? fun s => s.2.length < lim /\ Q (.v false .non, a1.set i (some (s.1.put (.lst (s.2 ++ [d])))))) := by
 simp only [pApp, w_bind, w_mutL]
 congr 1; funext _; congr 1; funext ⟨x, a1⟩
 cases x with
 | pl j => simp only [w_none]; rfl
 | v o d =>
  cases o
  ·simp only [w_bind, w_mutL, w_if, v_v]
  ·simp only [w_none]; rfl
theorem w_pPop {i : Nat} : W (pPop i p a) Q = mW a[i]? fun _ => W (p a) fun r => W (rd r.2 r.1) (inW fun j => mW r.2[i]? fun s => W (seqIndex? j s.2.length) fun n => W (s.2[n]?) fun x => (-(2 ^ 63) <= j /\ j < 2 ^ 63) /\ Q (.v false x, r.2.set i (some (s.1.put (.lst (s.2.eraseIdx n)))))) := by
 simp only [pPop, w_bind, w_mutL]
 congr 1; funext _; congr 1; funext r; congr 1; funext d
 cases d <;> first | (simp only [w_bind, w_mutL, w_if, in_int]; done) | (simp only [w_none]; rfl)
def lsW (QL : List Dv -> Prop) : Dv -> Prop
 | .lst xs => QL xs
 | _ => False
theorem ls_l {xs : List Dv} {QL : List Dv -> Prop} : lsW QL (.lst xs) = QL xs := rfl
theorem w_pExt {i : Nat} : W (pExt i p a) Q = mW a[i]? fun _ => W (p a) fun r => W (rd r.2 r.1) (lsW fun ys => mW r.2[i]? fun s => s.2.length + ys.length <= lim /\ Q (.v false .non, r.2.set i (some (s.1.put (.lst (s.2 ++ ys)))))) := by
 simp only [pExt, w_bind, w_mutL]
 congr 1; funext _; congr 1; funext r; congr 1; funext d
 cases d <;> first | (simp only [w_bind, w_mutL, w_if, ls_l]; done) | (simp only [w_none]; rfl)
theorem w_pgN {i : Nat} {d : Dv} : W (pgN i d a) QG = (freeB a i = true /\ QG (a.set i (some (.fz d)))) := by simp only [pgN, w_if]
theorem w_pgsNil : W (pgsNil [] a) QG = QG a := w_some
theorem w_pgsCons {g : Pg} {gs : Pgs} {d : Dv} {ds : List Dv} : W (pgsCons g gs (d :: ds) a) QG = W (g d a) fun a1 => W (gs ds a1) QG := by simp only [pgsCons, w_bind]
theorem w_pgT {n : Nat} {gs : Pgs} {t : Tk} {xs : List Dv} : W (pgT n gs (.tup t xs) a) QG = (xs.length = n /\ W (gs xs a) QG) := by
 unfold pgT
 simp only [w_ite, w_none]
 by_cases h : xs.length = n <;> simp [h]
theorem w_pgSb {i : Nat} {d : Dv} : W (pgSb i p d a) QG = mW a[i]? fun _ => W (p a) fun r => W (rd r.2 r.1) (inW fun j => mW r.2[i]? fun s => W (ixN s.2.length j) fun n => QG (r.2.set i (some (s.1.put (.lst (s.2.set n d)))))) := by
 simp only [pgSb, w_bind, w_mutL]
 congr 1; funext _; congr 1; funext r; congr 1; funext d
 cases d <;> first | (simp only [w_bind, w_mutL, w_map, in_int]; done) | (simp only [w_none]; rfl)
theorem w_zNil : W (zNil a) QS = QS (.nx, a) := w_some
def thenW (z : Ps) (Q : AOut × AEnv -> Prop) : AOut × AEnv -> Prop
 | (.nx, a) => W (z a) Q
 | r => Q r
theorem w_zCons : W (zCons z z' a) QS = W (z a) (thenW z' QS) := by
 unfold zCons
 rw [w_bind]
 congr 1; funext ⟨o, a1⟩
 cases o <;> simp only [w_some] <;> rfl
theorem t_nx : thenW z QS (.nx, a) = W (z a) QS := rfl
theorem t_rt {o : Bool} {d : Dv} : thenW z QS (.rt o d, a) = QS (.rt o d, a) := rfl
theorem t_bk : thenW z QS (.bk, a) = QS (.bk, a) := rfl
theorem t_ct : thenW z QS (.ct, a) = QS (.ct, a) := rfl
theorem w_zIf : W (zIf u z z' a) QS = W (u a) fun r => if r.1 = true then W (z r.2) QS else W (z' r.2) QS := by simp only [zIf, w_bind, w_ite]
def retW (Q : AOut × AEnv -> Prop) : Av × AEnv -> Prop
 | (.v o d, a) => Q (.rt o d, a)
 | _ => False
theorem w_zRet : W (zRet p a) QS = W (p a) (retW QS) := by
 unfold zRet
 rw [w_bind]
 congr 1; funext ⟨x, a1⟩
 cases x
 ·simp only [w_some]; rfl
 ·simp only [w_none]; rfl
theorem ret_v {o : Bool} {d : Dv} : retW QS (.v o d, a) = QS (.rt o d, a) := rfl
def rvW (o : Option (Option Sl)) (a : AEnv) (Q : AOut × AEnv -> Prop) : Prop := match o with
 | some (some (.fz d)) => Q (.rt false d, a)
 | some (some (.own d)) => Q (.rt true d, a)
 | _ => False
theorem w_zRetV {i : Nat} : W (zRetV i a) QS = rvW a[i]? a QS := by
 unfold zRetV rvW
 rcases h : a[i]? with _ | _ | s
 ·simp only [h, w_none]
 ·simp only [h, w_none]
 ·cases s <;> simp only [h, w_none, w_some]
theorem rv_fz {d : Dv} : rvW (some (some (.fz d))) a QS = QS (.rt false d, a) := rfl
theorem rv_own {d : Dv} : rvW (some (some (.own d))) a QS = QS (.rt true d, a) := rfl
theorem w_zEx : W (zEx p a) QS = W (p a) fun r => QS (.nx, r.2) := by simp only [zEx, w_map]
def setW (i : Nat) (Q : AOut × AEnv -> Prop) : Av × AEnv -> Prop
 | (.v true d, a) => freeB a i = true /\ Q (.nx, a.set i (some (.own d)))
 | (.v false d, a) => freeB a i = true /\ Q (.nx, a.set i (some (.fz d)))
 | _ => False
theorem w_zSet {i : Nat} : W (zSet i p a) QS = W (p a) (setW i QS) := by
 unfold zSet
 rw [w_bind]
 congr 1; funext ⟨x, a1⟩
 cases x with
 | v o d =>
  simp only [w_if]
  cases o <;> simp [setW]
 | pl i => simp only [w_none]; rfl
theorem set_t {i : Nat} {d : Dv} : setW i QS (.v true d, a) = (freeB a i = true /\ QS (.nx, a.set i (some (.own d)))) := rfl
theorem set_f {i : Nat} {d : Dv} : setW i QS (.v false d, a) = (freeB a i = true /\ QS (.nx, a.set i (some (.fz d)))) := rfl
theorem w_zAsg {g : Pg} : W (zAsg p g a) QS = W (pK p a) (vW fun d a1 => W (g d a1) fun a2 => QS (.nx, a2)) := by
 unfold zAsg
 rw [w_bind]
 congr 1; funext ⟨x, a1⟩
 cases x with
 | pl j => simp only [w_none]; rfl
 | v o d =>
  cases o
  ·simp only [w_map, v_v]
  ·simp only [w_none]; rfl
def dpW (o : Option (Option Sl)) (i : Nat) (y v : Dv) (a : AEnv) (Q : AOut × AEnv -> Prop) : Prop := match o with
 | some (some (.own (.dic kvs))) => W (keyD y) fun k => kvs.length < lim /\ Q (.nx, a.set i (some (.own (.dic (putD kvs k v)))))
 | some (some (.own (.dit kvs))) => W (tkeyD y) fun k => kvs.length < lim /\ Q (.nx, a.set i (some (.own (.dit (putD kvs k v)))))
 | _ => False
theorem w_zDput {i : Nat} {pk pv : Pe} : W (zDput i pk pv a) QS = W (pK pv a) (vW fun v a1 => W (pk a1) fun s => W (rd s.2 s.1) fun y => dpW s.2[i]? i y v s.2 QS) := by
 unfold zDput
 rw [w_bind]
 congr 1; funext ⟨x, a1⟩
 cases x with
 | pl j => simp only [w_none]; rfl
 | v o d =>
  cases o
  ·simp only [w_bind, v_v]
   congr 1; funext s; congr 1; funext y
   unfold dpW
   rcases h : s.2[i]? with _ | _ | t
   ·simp only [h, w_none]
   ·simp only [h, w_none]
   ·cases t with
    | own e => cases e <;> simp only [h, w_none, w_bind, w_if]
    | _ => simp only [h, w_none]
  ·simp only [w_none]; rfl
theorem dp_dic {i : Nat} {y v : Dv} {kvs : List (Key × Dv)} : dpW (some (some (.own (.dic kvs)))) i y v a QS = W (keyD y) fun k => kvs.length < lim /\ QS (.nx, a.set i (some (.own (.dic (putD kvs k v))))) := rfl
theorem dp_dit {i : Nat} {y v : Dv} {kvs : List (List Key × Dv)} : dpW (some (some (.own (.dit kvs)))) i y v a QS = W (tkeyD y) fun k => kvs.length < lim /\ QS (.nx, a.set i (some (.own (.dit (putD kvs k v))))) := rfl
theorem w_zFor {pi : Pi} {g : Pg} : W (zFor pi g z a) QS = W (pi a) fun r => W (forA g z r.1 r.2.2) fun s => QS (s.1, unhold s.2 r.2.1) := by simp only [zFor, w_bind, w_map]
/-- I: what holds where the rest is still to be walked -/
theorem for_w {g : Pg} (I : List Dv -> AEnv -> Prop) (hI : ∀ d ds a, I (d :: ds) a -> W (g d a) fun a1 => W (z a1) fun r => match r.1 with
   | .nx => I ds r.2
   | .ct => I ds r.2
   | .bk => QS (.nx, r.2)
   | .rt o v => QS (.rt o v, r.2)) (h0 : ∀ a, I [] a -> QS (.nx, a)) : ∀ (ds : List Dv) (a : AEnv), I ds a -> W (forA g z ds a) QS
 | [], a, h => w_some ▸ h0 a h
 | d :: ds, a, h => by
  unfold forA
  simp only [w_bind]
  refine (hI d ds a h).mono fun a1 h1 => h1.mono fun ⟨o, a2⟩ h2 => ?_
  cases o with
  | nx => exact for_w I hI h0 ds a2 h2
  | ct => exact for_w I hI h0 ds a2 h2
  | bk => exact w_some ▸ h2
  | rt o v => exact w_some ▸ h2
theorem while_w (I : Nat -> AEnv -> Prop) (hI : ∀ n a, I n a -> W (u a) fun r => if r.1 = true then W (z r.2) fun s => match s.1 with
   | .nx => ∃ m, m < n /\ I m s.2
   | .ct => ∃ m, m < n /\ I m s.2
   | .bk => QS (.nx, s.2)
   | .rt o v => QS (.rt o v, s.2)
  else QS (.nx, r.2)) : ∀ (m n : Nat) (a : AEnv), n < m -> I n a -> W (whileA u z m a) QS
 | 0, _, _, h, _ => absurd h (Nat.not_lt_zero _)
 | m + 1, n, a, h, hi => by
  unfold whileA
  simp only [w_bind, w_ite, w_some]
  refine (hI n a hi).mono fun r h1 => ?_
  split
  ·rename_i hr
   rw [if_pos hr] at h1
   refine h1.mono fun ⟨o, a2⟩ h2 => ?_
   cases o with
   | nx => obtain ⟨k, hk, h3⟩ := h2; exact while_w I hI m k a2 (by omega) h3
   | ct => obtain ⟨k, hk, h3⟩ := h2; exact while_w I hI m k a2 (by omega) h3
   | bk => exact w_some ▸ h2
   | rt o v => exact w_some ▸ h2
  ·rename_i hr
   rw [if_neg hr] at h1
   exact h1
theorem w_pLc {vs : List Nat} {pi : Pi} {g : Pg} : W (pLc vs pi g u p a) Q = W (pi a) fun r => fzB r.2.2 vs = true /\ W (lcA g u p vs r.1 (wipeA r.2.2 vs) []) fun s => Q (.v true (.lst s.1), unhold (unwipe r.2.2 s.2 vs) r.2.1) := by
 simp only [pLc, w_bind, w_map, w_ite, w_none]
 congr 1; funext r
 by_cases h : fzB r.2.2 vs = true <;> simp [h]
theorem lc_w {g : Pg} {vs : List Nat} {QL : List Dv × AEnv -> Prop} (I : List Dv -> AEnv -> List Dv -> Prop) (hI : ∀ d ds a acc, I (d :: ds) a acc -> W (g d a) fun a1 => W (u a1) fun r => if r.1 = true then W (pK p r.2) (vW fun y a2 => acc.length < lim /\ I ds (wipeA a2 vs) (acc ++ [y])) else I ds (wipeA r.2 vs) acc)
  (h0 : ∀ a acc, I [] a acc -> QL (acc, a)) : ∀ (ds : List Dv) (a : AEnv) (acc : List Dv), I ds a acc -> W (lcA g u p vs ds a acc) QL
 | [], a, acc, h => w_some ▸ h0 a acc h
 | d :: ds, a, acc, h => by
  unfold lcA
  simp only [w_bind, w_ite]
  refine (hI d ds a acc h).mono fun a1 h1 => h1.mono fun r h2 => ?_
  split
  ·rename_i hr
   rw [if_pos hr] at h2
   refine h2.mono fun ⟨x, a2⟩ h3 => ?_
   cases x with
   | pl j => exact h3.elim
   | v o y =>
    cases o with
    | true => exact h3.elim
    | false =>
     simp only [v_v] at h3
     simp only [h3.1, if_true]
     exact lc_w I hI h0 ds _ _ h3.2
  ·rename_i hr
   rw [if_neg hr] at h2
   exact lc_w I hI h0 ds _ _ h2
theorem w_pAllG {stop : Bool} {n : Nat} {js : List Nat} {pi : Pi} {g : Pg} : W (pAllG stop n js pi g u p a) Q = W (pi a) fun r => W (allA stop g u p r.1 (gen0A n js r.2.2)) fun b => Q (.v false (.bl b), unhold r.2.2 r.2.1) := by
 simp only [pAllG, w_bind, w_map]
theorem w_pColG {fin : List Dv -> Option (Bool × Dv)} {n : Nat} {js : List Nat} {pi : Pi} {g : Pg} : W (pColG fin n js pi g u p a) Q = W (pi a) fun r => W (colA g u p r.1 (gen0A n js r.2.2) []) fun acc => W (fin acc) fun q => Q (.v q.1 q.2, unhold r.2.2 r.2.1) := by
 simp only [pColG, w_bind, w_map]
theorem col_w {g : Pg} {QL : List Dv -> Prop} (I : List Dv -> AEnv -> List Dv -> Prop) (hI : ∀ d ds a acc, I (d :: ds) a acc -> W (g d a) fun a1 => W (u a1) fun r => if r.1 = true then W (pK p r.2) (vW fun y a2 => acc.length < lim /\ I ds a2 (acc ++ [y])) else I ds r.2 acc)
  (h0 : ∀ a acc, I [] a acc -> QL acc) : ∀ (ds : List Dv) (a : AEnv) (acc : List Dv), I ds a acc -> W (colA g u p ds a acc) QL
 | [], a, acc, h => w_some ▸ h0 a acc h
 | d :: ds, a, acc, h => by
  unfold colA
  simp only [w_bind, w_ite]
  refine (hI d ds a acc h).mono fun a1 h1 => h1.mono fun r h2 => ?_
  split
  ·rename_i hr
   rw [if_pos hr] at h2
   refine h2.mono fun ⟨x, a2⟩ h3 => ?_
   cases x with
   | pl j => exact h3.elim
   | v o y =>
    cases o with
    | true => exact h3.elim
    | false =>
     simp only [v_v] at h3
     simp only [h3.1, if_true]
     exact col_w I hI h0 ds _ _ h3.2
  ·rename_i hr
   rw [if_neg hr] at h2
   exact col_w I hI h0 ds _ _ h2
end
end Pu
namespace Pu
open PySem PySem.Spec PyProof.Rows L2 NdefX GenE Sh
section
variable {a : AEnv} {Q : Av × AEnv -> Prop} {QI : List Dv × Option (Nat × Sl) × AEnv -> Prop} {p q o : Pe} {ua : Pa} {z : Ps}
abbrev RD := (Bool × Dv) × Option Dv
def outN (QR : RD -> Prop) : AOut × AEnv -> Prop
 | (.rt o d, _) => QR ((o, d), none)
 | (.nx, _) => QR ((false, .non), none)
 | _ => False
def ioW (x : Option (Option Sl)) (y : AOut) (QR : RD -> Prop) : Prop := match x with
 | some (some (.io e)) => match y with
  | .rt o d => QR ((o, d), some e)
  | .nx => QR ((false, .non), some e)
  | _ => False
 | _ => False
theorem w_runN {n : Nat} {ss : List Sl} {QR : RD -> Prop} : W (runA none n z ss) QR = W (z (ss.map some ++ List.replicate (n - ss.length) none)) (outN QR) := by
 unfold runA
 rw [w_bind]
 congr 1; funext ⟨y, a1⟩
 cases y <;> simp only [w_some, w_none] <;> rfl
theorem w_runS {n j : Nat} {ss : List Sl} {QR : RD -> Prop} : W (runA (some j) n z ss) QR = W (z (ss.map some ++ List.replicate (n - ss.length) none)) fun r => ioW r.2[j]? r.1 QR := by
 unfold runA
 rw [w_bind]
 congr 1; funext ⟨y, a1⟩
 simp only
 unfold ioW
 rcases h : a1[j]? with _ | _ | s
 ·simp only [w_none]
 ·simp only [w_none]
 ·cases s with
  | io e => cases y <;> simp only [w_some, w_none]
  | _ => simp only [w_none]
theorem on_rt {b : Bool} {d : Dv} {QR : RD -> Prop} : outN QR (.rt b d, a) = QR ((b, d), none) := rfl
theorem on_nx {QR : RD -> Prop} : outN QR (.nx, a) = QR ((false, .non), none) := rfl
theorem oi_rt {b : Bool} {d e : Dv} {QR : RD -> Prop} : ioW (some (some (.io e))) (.rt b d) QR = QR ((b, d), some e) := rfl
theorem oi_nx {e : Dv} {QR : RD -> Prop} : ioW (some (some (.io e))) .nx QR = QR ((false, .non), some e) := rfl
def alW (x : Option (Option Sl)) (QL : Sl -> Prop) : Prop := match x with
 | some (some (.fz d)) => QL (.fz d)
 | some (some s) => QL (.bw s.val)
 | _ => False
theorem al_fz {d : Dv} {QL : Sl -> Prop} : alW (some (some (.fz d))) QL = QL (.fz d) := rfl
theorem al_own {d : Dv} {QL : Sl -> Prop} : alW (some (some (.own d))) QL = QL (.bw d) := rfl
theorem al_io {d : Dv} {QL : Sl -> Prop} : alW (some (some (.io d))) QL = QL (.bw d) := rfl
theorem al_bw {d : Dv} {QL : Sl -> Prop} : alW (some (some (.bw d))) QL = QL (.bw d) := rfl
theorem al_hd {d : Dv} {QL : Sl -> Prop} : alW (some (some (.hd d))) QL = QL (.bw d) := rfl
theorem a_f {d : Dv} {QL : Sl -> Prop} : W (argS a (.v false d)) QL = QL (.fz d) := w_some
theorem a_t {d : Dv} {QL : Sl -> Prop} : W (argS a (.v true d)) QL = QL (.bw d) := w_some
theorem a_pl {i : Nat} {QL : Sl -> Prop} : W (argS a (.pl i)) QL = alW a[i]? QL := by
 unfold argS alW
 rcases h : a[i]? with _ | _ | s
 ·simp only [h, w_none]
 ·simp only [h, w_none]
 ·cases s <;> simp only [h, w_some]
theorem as_n {QL : List Sl -> Prop} : W (argsS a []) QL = QL [] := w_some
theorem as_c {y : Av} {ys : List Av} {QL : List Sl -> Prop} : W (argsS a (y :: ys)) QL = W (argS a y) fun s => W (argsS a ys) fun ss => QL (s :: ss) := by
 have e : argsS a (y :: ys) = match argS a y, argsS a ys with
  | some s, some ss => some (s :: ss)
  | _, _ => none := rfl
 rw [e]
 rcases h : argS a y with _ | s
 ·simp only [w_none]
 ·simp only [w_some]
  rcases h' : argsS a ys with _ | ss <;> simp only [w_none, w_some]
theorem w_callN {f : Pd} : W (pCall none f ua a) Q = W (ua a) fun r => W (argsS r.2 r.1) fun ss => W (f ss) fun q => Q (.v q.1.1 q.1.2, r.2) := by
 simp only [pCall, w_bind, w_map]
def csW (j : Nat) (f : Pd) (Q : Av × AEnv -> Prop) (ys : List Av) (a : AEnv) (i : Nat) (x : Option (Option Sl)) : Prop := match x with
 | some (some s) => s.mut = true /\ (ys.eraseIdx j).all (notPl i) = true /\ W (argsS a ys) fun ss => W (f (ss.set j (.io s.val))) fun q => W q.2 fun e => Q (.v q.1.1 q.1.2, a.set i (some (s.put e)))
 | _ => False
def cjW (j : Nat) (f : Pd) (Q : Av × AEnv -> Prop) (ys : List Av) (a : AEnv) (x : Option Av) : Prop := match x with
 | some (.pl i) => csW j f Q ys a i a[i]?
 | _ => False
theorem w_callS {j : Nat} {f : Pd} : W (pCall (some j) f ua a) Q = W (ua a) fun r => cjW j f Q r.1 r.2 r.1[j]? := by
 unfold pCall
 rw [w_bind]
 congr 1; funext ⟨ys, a1⟩
 simp only
 unfold cjW
 rcases h : ys[j]? with _ | y
 ·simp only [w_none]
 ·cases y with
  | v b d => simp only [w_none]
  | pl i =>
   simp only
   unfold csW
   rcases h2 : a1[i]? with _ | _ | s
   ·simp only [w_none]
   ·simp only [w_none]
   ·simp only [w_ite, w_bind, w_none]
    by_cases h3 : s.mut = true /\ (ys.eraseIdx j).all (notPl i) = true
    ·rw [if_pos h3]
     simp only [h3.1, h3.2, true_and]
     congr 1; funext ss; congr 1; funext q
     rcases q.2 with _ | e <;> simp only [w_none, w_some]
    ·rw [if_neg h3]
     apply propext
     exact ⟨False.elim, fun ⟨x, y, _⟩ => h3 ⟨x, y⟩⟩
theorem cj_pl {j i : Nat} {f : Pd} {ys : List Av} : cjW j f Q ys a (some (.pl i)) = csW j f Q ys a i a[i]? := rfl
theorem cs_own {j i : Nat} {f : Pd} {ys : List Av} {d : Dv} : csW j f Q ys a i (some (some (.own d))) = ((ys.eraseIdx j).all (notPl i) = true /\ W (argsS a ys) fun ss => W (f (ss.set j (.io d))) fun q => W q.2 fun e => Q (.v q.1.1 q.1.2, a.set i (some (.own e)))) := by
 unfold csW
 simp [Sl.mut, Sl.val, Sl.put]
theorem cs_io {j i : Nat} {f : Pd} {ys : List Av} {d : Dv} : csW j f Q ys a i (some (some (.io d))) = ((ys.eraseIdx j).all (notPl i) = true /\ W (argsS a ys) fun ss => W (f (ss.set j (.io d))) fun q => W q.2 fun e => Q (.v q.1.1 q.1.2, a.set i (some (.io e)))) := by
 unfold csW
 simp [Sl.mut, Sl.val, Sl.put]
def psW (i : Nat) (a : AEnv) (QI : List Dv × Option (Nat × Sl) × AEnv -> Prop) (x : Option (Option Sl)) : Prop := match x with
 | some (some (.own (.lst xs))) => QI (xs, some (i, .own (.lst xs)), a.set i (some (.hd (.lst xs))))
 | some (some (.io (.lst xs))) => QI (xs, some (i, .io (.lst xs)), a.set i (some (.hd (.lst xs))))
 | some (some (.bw (.lst xs))) => QI (xs, none, a)
 | some (some (.bw (.fro xs))) => QI (xs, none, a)
 | some (some (.hd (.lst xs))) => QI (xs, none, a)
 | _ => False
def sqW (QI : List Dv × Option (Nat × Sl) × AEnv -> Prop) : Av × AEnv -> Prop
 | (.v _ (.tup _ xs), a) => QI (xs, none, a)
 | (.v _ (.str z), a) => QI (signsD z, none, a)
 | (.v _ (.lst xs), a) => QI (xs, none, a)
 | (.v _ (.fro xs), a) => QI (xs, none, a)
 | (.pl i, a) => psW i a QI a[i]?
 | _ => False
theorem w_piSeq : W (piSeq p a) QI = W (p a) (sqW QI) := by
 unfold piSeq
 rw [w_bind]
 congr 1; funext ⟨x, a1⟩
 cases x with
 | v b d => cases d <;> simp only [w_some, w_none] <;> rfl
 | pl i =>
  simp only
  unfold sqW psW
  rcases h : a1[i]? with _ | _ | s
  ·simp only [h, w_none]
  ·simp only [h, w_none]
  ·cases s with
   | own d => cases d <;> simp only [h, w_some, w_none]
   | io d => cases d <;> simp only [h, w_some, w_none]
   | bw d => cases d <;> simp only [h, w_some, w_none]
   | hd d => cases d <;> simp only [h, w_some, w_none]
   | fz d => simp only [h, w_none]
theorem sq_tup {b : Bool} {t : Tk} {xs : List Dv} : sqW QI (.v b (.tup t xs), a) = QI (xs, none, a) := rfl
theorem sq_str {b : Bool} {x : Str} : sqW QI (.v b (.str x), a) = QI (signsD x, none, a) := rfl
theorem sq_lst {b : Bool} {xs : List Dv} : sqW QI (.v b (.lst xs), a) = QI (xs, none, a) := rfl
theorem sq_fro {b : Bool} {xs : List Dv} : sqW QI (.v b (.fro xs), a) = QI (xs, none, a) := rfl
theorem sq_pl {i : Nat} : sqW QI (.pl i, a) = psW i a QI a[i]? := rfl
theorem ps_own {i : Nat} {xs : List Dv} : psW i a QI (some (some (.own (.lst xs)))) = QI (xs, some (i, .own (.lst xs)), a.set i (some (.hd (.lst xs)))) := rfl
theorem ps_io {i : Nat} {xs : List Dv} : psW i a QI (some (some (.io (.lst xs)))) = QI (xs, some (i, .io (.lst xs)), a.set i (some (.hd (.lst xs)))) := rfl
theorem ps_bw {i : Nat} {xs : List Dv} : psW i a QI (some (some (.bw (.lst xs)))) = QI (xs, none, a) := rfl
theorem ps_hd {i : Nat} {xs : List Dv} : psW i a QI (some (some (.hd (.lst xs)))) = QI (xs, none, a) := rfl
def epW (i : Nat) (a : AEnv) (QI : List Dv × Option (Nat × Sl) × AEnv -> Prop) (x : Option (Option Sl)) : Prop := psW i a (fun r => QI (enD r.1, r.2)) x
def enW (QI : List Dv × Option (Nat × Sl) × AEnv -> Prop) : Av × AEnv -> Prop
 | (.v _ (.tup _ xs), a) => QI (enD xs, none, a)
 | (.v _ (.lst xs), a) => QI (enD xs, none, a)
 | (.v _ (.fro xs), a) => QI (enD xs, none, a)
 | (.pl i, a) => epW i a QI a[i]?
 | _ => False
theorem w_piEnum : W (piEnum p a) QI = W (p a) (enW QI) := by
 unfold piEnum
 rw [w_bind]
 rcases hp : p a with _ | ⟨x, a1⟩
 ·simp only [w_none]
 ·simp only [w_some]
  cases x with
  | v b d => cases d <;> first | (simp only [w_none]; rfl; done) | (simp only [w_map, w_piSeq, hp, w_some]; rfl)
  | pl i => simp only [w_map, w_piSeq, hp, w_some]; rfl
theorem en_tup {b : Bool} {t : Tk} {xs : List Dv} : enW QI (.v b (.tup t xs), a) = QI (enD xs, none, a) := rfl
theorem en_lst {b : Bool} {xs : List Dv} : enW QI (.v b (.lst xs), a) = QI (enD xs, none, a) := rfl
theorem en_pl {i : Nat} : enW QI (.pl i, a) = epW i a QI a[i]? := rfl
theorem ep_own {i : Nat} {xs : List Dv} : epW i a QI (some (some (.own (.lst xs)))) = QI (enD xs, some (i, .own (.lst xs)), a.set i (some (.hd (.lst xs)))) := rfl
theorem ep_bw {i : Nat} {xs : List Dv} : epW i a QI (some (some (.bw (.lst xs)))) = QI (enD xs, none, a) := rfl
theorem ep_hd {i : Nat} {xs : List Dv} : epW i a QI (some (some (.hd (.lst xs)))) = QI (enD xs, none, a) := rfl
theorem unh_n : unhold a none = a := rfl
theorem unh_s {i : Nat} {s : Sl} : unhold a (some (i, s)) = a.set i (some s) := rfl
theorem w_piR1 : W (piR1 p a) QI = W (p a) fun r => W (rd r.2 r.1) (inW fun j => (-(2 ^ 62) <= j /\ j < 2 ^ 62) /\ QI (rngD 0 j.toNat, none, r.2)) := by
 unfold piR1
 rw [w_bind]
 congr 1; funext r
 rcases h : rd r.2 r.1 with _ | d
 ·simp only [h, w_none]
 ·cases d <;> first | (simp only [h, w_some, w_if, in_int]; done) | (simp only [h, w_some, w_none]; rfl)
theorem w_piR2 : W (piR2 p q a) QI = W (p a) fun r => W (rd r.2 r.1) (inW fun i => W (q r.2) fun s => W (rd s.2 s.1) (inW fun j => (-(2 ^ 62) <= i /\ i < 2 ^ 62 /\ -(2 ^ 62) <= j /\ j < 2 ^ 62) /\ QI (rngD i (j - i).toNat, none, s.2))) := by
 unfold piR2
 rw [w_bind]
 congr 1; funext r
 rcases h : rd r.2 r.1 with _ | d
 ·simp only [h, w_none]
 ·cases d <;> first
   | (simp only [h, w_some, w_none]; rfl; done)
   | (simp only [h, w_some, in_int, w_bind]
      congr 1; funext s
      rcases h2 : rd s.2 s.1 with _ | d2
      ·simp only [h2, w_none]
      ·cases d2 <;> first | (simp only [h2, w_some, w_if, in_int]; done) | (simp only [h2, w_some, w_none]; rfl))
theorem w_piR3 : W (piR3 p q o a) QI = W (p a) fun r => W (rd r.2 r.1) (inW fun i => W (q r.2) fun s => W (rd s.2 s.1) (inW fun j => W (o s.2) fun t => W (rd t.2 t.1) (inW fun k => (k ≠ 0 /\ k.natAbs < 1073741824 /\ Builtin.Range.small i j k = true /\ Builtin.Range.rangeSize i j k = (Builtin.Range.rangeSize i j k).toNat) /\ QI (rngCD i k (Builtin.Range.rangeSize i j k).toNat, none, t.2)))) := by
 unfold piR3
 rw [w_bind]
 congr 1; funext r
 rcases h : rd r.2 r.1 with _ | d
 ·simp only [h, w_none]
 ·cases d <;> first
   | (simp only [h, w_some, w_none]; rfl; done)
   | (simp only [h, w_some, in_int, w_bind]
      congr 1; funext s
      rcases h2 : rd s.2 s.1 with _ | d2
      ·simp only [h2, w_none]
      ·cases d2 <;> first
        | (simp only [h2, w_some, w_none]; rfl; done)
        | (simp only [h2, w_some, in_int, w_bind]
           congr 1; funext t
           rcases h3 : rd t.2 t.1 with _ | d3
           ·simp only [h3, w_none]
           ·cases d3 <;> first | (simp only [h3, w_some, w_if, in_int]; done) | (simp only [h3, w_some, w_none]; rfl)))
end
end Pu
namespace Pu
open PySem PySem.Spec PyProof.Rows L2 NdefX GenE Sh
section
variable {Q : Bool × Dv -> Prop} {i j : Int} {xs ys : List Dv} {t t' : Tk} {x y : Str} {d e : Dv}
theorem o_addI : W (dAdd (.int i) (.int j)) Q = Q (false, .int (i + j)) := w_some
theorem o_addS : W (dAdd (.str x) (.str y)) Q = (x.length + y.length <= lim /\ Q (false, .str (x ++ y))) := by simp only [dAdd, w_if]
theorem o_addL : W (dAdd (.lst xs) (.lst ys)) Q = (xs.length + ys.length <= lim /\ Q (true, .lst (xs ++ ys))) := by simp only [dAdd, w_if]
theorem o_sub : W (dSub (.int i) (.int j)) Q = Q (false, .int (i - j)) := by simp only [dSub, dInt, if_true, w_some]
theorem o_mod : W (dMod (.int i) (.int j)) Q = (0 < j /\ Q (false, .int (i % j))) := by simp only [dMod, dInt, w_if]
theorem o_div : W (dDiv (.int i) (.int j)) Q = (CDiv i j /\ Q (false, .int (i / j))) := by simp only [dDiv, dInt, w_if]
theorem o_pow : W (dPow (.int i) (.int j)) Q = (CPow i j /\ Q (false, .int (i ^ j.toNat))) := by simp only [dPow, dInt, w_if]
theorem o_mulI : W (dMul (.int i) (.int j)) Q = (CMul i j /\ Q (false, .int (i * j))) := by simp only [dMul, w_if]
theorem o_le : W (dLe (.int i) (.int j)) Q = Q (false, .bl (decide (i <= j))) := w_some
theorem o_gt : W (dGt (.int i) (.int j)) Q = Q (false, .bl (decide (j < i))) := w_some
theorem o_ge : W (dGe (.int i) (.int j)) Q = Q (false, .bl (decide (j <= i))) := w_some
theorem o_ltI : W (dLt (.int i) (.int j)) Q = Q (false, .bl (decide (i < j))) := w_some
theorem o_eq : W (dEq d e) Q = W (toDD 20 d) fun a => W (toDD 20 e) fun b => Q (false, .bl (PyData.eqv a b)) := by
 unfold dEq
 rcases h : toDD 20 d with _ | a
 ·simp only [w_none]
 ·rcases h2 : toDD 20 e with _ | b <;> simp only [w_none, w_some]
theorem o_ne : W (dNe d e) Q = W (toDD 20 d) fun a => W (toDD 20 e) fun b => Q (false, .bl (!PyData.eqv a b)) := by
 unfold dNe
 rcases h : toDD 20 d with _ | a
 ·simp only [w_none]
 ·rcases h2 : toDD 20 e with _ | b <;> simp only [w_none, w_some]
theorem o_isB {b c : Bool} : W (dIs (.bl b) (.bl c)) Q = Q (false, .bl (decide (b = c))) := w_some
theorem o_isnB {b c : Bool} : W (dIsNot (.bl b) (.bl c)) Q = Q (false, .bl (!decide (b = c))) := w_some
theorem o_ixT : W (dIx (.tup t xs) (.int i)) Q = W (atI xs i) fun v => Q (false, v) := by simp only [dIx, w_map]
theorem o_ixL : W (dIx (.lst xs) (.int i)) Q = W (atI xs i) fun v => Q (false, v) := by simp only [dIx, w_map]
theorem o_ixF : W (dIx (.fro xs) (.int i)) Q = W (atI xs i) fun v => Q (false, v) := by simp only [dIx, w_map]
theorem o_ixS : W (dIx (.str x) (.int i)) Q = (x.length <= lim /\ W (atI x.cps.toList i) fun c => Q (false, .str ⟨#[c]⟩)) := by
 simp only [dIx, w_ite, w_map, w_none]
 by_cases h : x.length <= lim <;> simp [h]
theorem o_slT {lo hi : Option Int} : W (dSl (.tup t xs) lo hi) Q = Q (false, .tup .any (cutL xs lo hi)) := w_some
theorem o_slS {lo hi : Option Int} : W (dSl (.str x) lo hi) Q = (x.length <= lim /\ Q (false, .str (cutS x lo hi))) := by simp only [dSl, w_if]
theorem o_slL {lo hi : Option Int} : W (dSl (.lst xs) lo hi) Q = Q (true, .lst (cutL xs lo hi)) := w_some
theorem o_lenT : W (dLen (.tup t xs)) Q = Q (false, .int xs.length) := w_some
theorem o_lenL : W (dLen (.lst xs)) Q = Q (false, .int xs.length) := w_some
theorem o_lenF : W (dLen (.fro xs)) Q = Q (false, .int xs.length) := w_some
theorem o_lenS : W (dLen (.str x)) Q = (x.length <= lim /\ Q (false, .int x.length)) := by simp only [dLen, w_if]
theorem o_listT : W (dList (.tup t xs)) Q = Q (true, .lst xs) := w_some
theorem o_listL : W (dList (.lst xs)) Q = Q (true, .lst xs) := w_some
theorem o_tupT : W (dTuple (.tup t xs)) Q = Q (false, .tup t xs) := w_some
theorem o_tupL : W (dTuple (.lst xs)) Q = Q (false, .tup .nod xs) := w_some
theorem o_listRg : W (dListRg (.int i)) Q = ((0 <= i /\ i <= 16777216) /\ Q (true, .lst ((List.range i.toNat).map fun (k : Nat) => .int k))) := by simp only [dListRg, w_if]
theorem o_dg : W (dDG d e) Q = W (dLookD d e) fun r => W r fun v => Q (false, v) := by
 unfold dDG
 rcases h : dLookD d e with _ | _ | v <;> simp only [w_none, w_some]
theorem o_din : W (dDIn e d) Q = W (dLookD d e) fun r => Q (false, .bl r.isSome) := by simp only [dDIn, w_map]
theorem o_dnotin : W (dDNotIn e d) Q = W (dLookD d e) fun r => Q (false, .bl (!r.isSome)) := by simp only [dDNotIn, w_map]
theorem o_lookK {kvs : List (Key × Dv)} {QL : Option Dv -> Prop} : W (dLookD (.dic kvs) e) QL = W (keyD e) fun k => QL (lookD kvs k) := by simp only [dLookD, w_map]
theorem o_lookT {kvs : List (List Key × Dv)} {QL : Option Dv -> Prop} : W (dLookD (.dit kvs) e) QL = W (tkeyD e) fun k => QL (lookD kvs k) := by simp only [dLookD, w_map]
theorem o_keyS {QK : Key -> Prop} : W (keyD (.str x)) QK = QK (.inr x) := w_some
theorem o_keyI {QK : Key -> Prop} : W (keyD (.int i)) QK = QK (.inl i) := w_some
theorem o_tkey2 {QK : List Key -> Prop} : W (tkeyD (.tup .trk [.int i, .int j])) QK = QK [.inl i, .inl j] := w_some
theorem at_nat {α : Type} {vs : List α} {n : Nat} {v : α} (h : vs[n]? = some v) : atI vs (n : Int) = some v := by
 have hl := (List.getElem?_eq_some_iff.mp h).1
 unfold atI ixN
 rw [if_pos (by omega), if_pos (by omega)]
 simpa using h
theorem at0 {α : Type} {v : α} {vs : List α} : atI (v :: vs) 0 = some v := at_nat (n := 0) rfl
theorem at1 {α : Type} {u v : α} {vs : List α} : atI (u :: v :: vs) 1 = some v := at_nat (n := 1) rfl
theorem at_lt {α : Type} {vs : List α} {c : Int} (h0 : 0 <= c) (h1 : c < vs.length) : ∃ v, v ∈ vs /\ atI vs c = some v := by
 obtain ⟨n, rfl⟩ := Int.eq_ofNat_of_zero_le h0
 have hn : n < vs.length := by omega
 exact ⟨vs[n], List.getElem_mem hn, at_nat (List.getElem?_eq_getElem hn)⟩
theorem o_at0 {α : Type} {v : α} {vs : List α} {QV : α -> Prop} : W (atI (v :: vs) 0) QV = QV v := by rw [at0, w_some]
theorem o_at1 {α : Type} {u v : α} {vs : List α} {QV : α -> Prop} : W (atI (u :: v :: vs) 1) QV = QV v := by rw [at1, w_some]
theorem ty_tup {QY : String -> Prop} : W (tyD (.tup t xs)) QY = QY "tuple" := w_some
theorem ty_lst {QY : String -> Prop} : W (tyD (.lst xs)) QY = QY "list" := w_some
theorem ty_int {QY : String -> Prop} : W (tyD (.int i)) QY = QY "int" := w_some
theorem ty_bl {b : Bool} {QY : String -> Prop} : W (tyD (.bl b)) QY = QY "bool" := w_some
theorem ty_str {QY : String -> Prop} : W (tyD (.str x)) QY = QY "str" := w_some
theorem ty_non {QY : String -> Prop} : W (tyD .non) QY = QY "NoneType" := w_some
end
end Pu
namespace Pu
open PySem PySem.Spec PyProof.Rows L2 NdefX GenE Sh
def pSet0 : Pe := fun a => some (.v true (.ist []), a)
section
variable {f g fa fb fc : Fe} {p q pa pb pc : Pe} {t t' : Ft} {u u' : Pt}
def setA (a : AEnv) (i : Nat) : Option (List Int) := match a[i]? with
 | some (some (.own (.ist S))) => some S
 | _ => none
def pSAdd (i : Nat) (p : Pe) : Pe := fun a => (setA a i).bind fun _ => (p a).bind fun r => (rd r.2 r.1).bind fun d => match d with
 | .int j => (setA r.2 i).bind fun S => if S.length < 4000 then some (.v false .non, r.2.set i (some (.own (.ist (addS S j))))) else none
 | _ => none
def dSIn : Dv -> Dv -> Option (Bool × Dv)
 | .int i, .ist S => some (false, .bl (decide (i ∈ S)))
 | _, _ => none
def dSNotIn : Dv -> Dv -> Option (Bool × Dv)
 | .int i, .ist S => some (false, .bl (!decide (i ∈ S)))
 | _, _ => none
def pD1 (pa pb : Pe) : Pe := fun a => (pa a).bind fun r => (pK pb r.2).bind fun s => match s.1 with
 | .v false d => (rd s.2 r.1).bind fun y => (keyD y).map fun k => (.v true (.dic [(k, d)]), s.2)
 | _ => none
/-- a dict, whatever its keys -/
def isDicD : Dv -> Bool
 | .dic _ => true
 | .dit _ => true
 | .fdi _ => true
 | .fdt _ => true
 | _ => false
def pDGet2 (pa pb pc : Pe) : Pe := fun a => (pa a).bind fun r => (rd r.2 r.1).bind fun d0 => if isDicD d0 = true then (pb r.2).bind fun s => (pK pc s.2).bind fun t => match t.1 with
 | .v false x => (rd t.2 r.1).bind fun d => (rd t.2 s.1).bind fun y => (dLookD d y).map fun o => (.v false (o.getD x), t.2)
 | _ => none
 else none
/-- a name whose dict is only read from now on -/
def pLockV (i : Nat) : Pe := fun a => match a[i]? with
 | some (some (.own (.dic kvs))) => some (.v false (.fdi kvs), a.set i (some (.fz (.fdi kvs))))
 | some (some (.own (.dit kvs))) => some (.v false (.fdt kvs), a.set i (some (.fz (.fdt kvs))))
 | some (some (.fz (.fdi kvs))) => some (.v false (.fdi kvs), a)
 | some (some (.fz (.fdt kvs))) => some (.v false (.fdt kvs), a)
 | _ => none
def keyDv : Key -> Dv
 | .inl i => .int i
 | .inr x => .str x
def piKeys (p : Pe) : Pi := fun a => (p a).bind fun r => match r.1 with
 | .v false (.fdi kvs) => some (kvs.map fun kv => keyDv kv.1, none, r.2)
 | .v false (.fdt kvs) => some (kvs.map fun kv => .tup .trk (kv.1.map keyDv), none, r.2)
 | _ => none
def dListD : Dv -> Option (Bool × Dv)
 | .dic kvs => some (true, .lst (kvs.map fun kv => keyDv kv.1))
 | .fdi kvs => some (true, .lst (kvs.map fun kv => keyDv kv.1))
 | _ => none
def zAug (i : Nat) (p : Pe) : Ps := fun a => match a[i]? with
 | some (some (.fz (.int x))) => (p a).bind fun r => (rd r.2 r.1).bind fun d => match d with
  | .int y => if freeB r.2 i = true then some (.nx, r.2.set i (some (.fz (.int (x + y))))) else none
  | _ => none
 | _ => none
def pIns (i : Nat) (pa pb : Pe) : Pe := fun a => (mutL a i).bind fun _ => (pa a).bind fun r => (pK pb r.2).bind fun s => match s.1 with
 | .v false d => (rd s.2 r.1).bind fun j => match j with
  | .int j => (mutL s.2 i).bind fun m => if m.2.length < lim /\ 0 <= j /\ j < 2 ^ 63 then some (.v false .non, s.2.set i (some (m.1.put (.lst (m.2.take j.toNat ++ [d] ++ m.2.drop j.toNat))))) else none
  | _ => none
 | _ => none
/-- an index into anything -/
def dIxG (d e : Dv) : Option (Bool × Dv) := if isDicD d = true then dDG d e else dIx d e
end
end Pu
namespace Sh
open PySem PySem.Spec PyProof.Rows L2 NdefX GenE
theorem PE.or {X : Cx} {e : Expr} {t1 t2 : TE} (h1 : PE X e t1) (h2 : PE X e t2) : PE X e (fun σ H Q => t1 σ H Q \/ t2 σ H Q) :=
 ⟨fun pins s σ H Q I h => h.elim (fun z => h1.run pins s σ H Q I z) fun z => h2.run pins s σ H Q I z⟩
end Sh
namespace Pu
open PySem PySem.Spec PyProof.Rows L2 NdefX GenE Sh
section
variable {f g fa fb fc : Fe} {p q pa pb pc : Pe}
def isTmp : Av -> Bool
 | .v true _ => true
 | _ => false
def pCallT (j : Nat) (f : Pd) (u : Pa) : Pe := fun a => (u a).bind fun r => match r.1[j]? with
 | some (.v true d) => if (r.1.eraseIdx j).all (fun y => !isTmp y) = true then (argsS r.2 r.1).bind fun ss => (f (ss.set j (.io d))).map fun q => (.v q.1.1 q.1.2, r.2) else none
 | _ => none
theorem ae_callT {j : Nat} {m : Fd} {p : Pd} {g : Fa} {u : Pa} (hd : AD (some j) m p) (ha : AA g u) : AE (eA m g) (pCallT j p u) := by
 intro B Z M ρ a y a' inv e
 unfold pCallT at e
 obtain ⟨⟨ys, a1⟩, e1, e⟩ := Option.bind_eq_some_iff.mp e
 obtain ⟨vs, M1, Z1, f1, s1, r1⟩ := ha _ _ _ _ _ _ _ inv e1
 have hl1 : ∀ (i : Nat) (s : Sl) (k : Nat), a1[i]? = some (some s) -> ρ[i]? = some (some (.ref k)) -> k < M1.length := fun i s k h1 h2 => s1.inv.lt h1 h2
 simp only at e
 split at e
 ·rename_i d hj
  split at e
  ·rename_i hall
   obtain ⟨ss, e2, e⟩ := Option.bind_eq_some_iff.mp e
   obtain ⟨⟨r, e'⟩, e3, e⟩ := Option.map_eq_some_iff.mp e
   cases e
   obtain ⟨l, kk⟩ := argsS_r s1.inv r1 e2
   obtain ⟨v0, hv0, k, rfl, hnk, hot, hno⟩ := r1.get hj
   have hjl : j < ss.length := by rw [<- l]; exact (List.getElem?_eq_some_iff.mp hv0).1
   have ar : ArgR (some j) Z1 M1 vs (ss.set j (.io d)) := by
    refine ⟨by simp [l], fun i' t h => ?_, fun j' k' h h' i' hne c => ?_, fun j' h => by cases h; exact ⟨_, List.getElem?_set_self hjl⟩⟩
    ·by_cases hij : j = i'
     ·subst hij
      rw [List.getElem?_set_self hjl] at h
      cases h
      exact ⟨_, hv0, ⟨k, rfl, hot⟩, by simp [okA]⟩
     ·rw [List.getElem?_set_ne hij] at h
      obtain ⟨v, h1, h2, h3⟩ := kk i' t h
      exact ⟨v, h1, h2, h3 _ _⟩
    ·cases h
     rw [hv0] at h'
     cases h'
     obtain ⟨y', hy', ry⟩ := r1.get' c
     have hn := List.all_eq_true.mp hall y' (mem_erase hy' hne)
     cases y' with
     | v o d =>
      cases o with
      | false =>
       cases ry with
       | ref z _ _ => exact hot.1 z
      | true => simp [isTmp] at hn
     | pl i2 =>
      obtain ⟨hρ2, t2, ht2⟩ := ry
      exact hno i2 t2 ht2 hρ2
   obtain ⟨v, M2, Z2, f2, le, hd2, ho, rr⟩ := hd Z1 M1 vs _ r _ s1.inv.dom ar e3
   have only : ∀ k2, (∃ j', some j = some j' /\ vs[j']? = some (.ref k2)) -> k2 = k := fun k2 ⟨j', h, h'⟩ => by
    cases h
    rw [hv0] at h'
    cases h'
    rfl
   have zz : ∀ k2, Z1 k2 -> Z2 k2 := fun k2 z => (le.fz k2 (s1.inv.dom k2 z) fun q => hot.1 (only k2 q ▸ z)).mpr z
   have mm : ∀ k2, Z1 k2 -> M2[k2]? = M1[k2]? := fun k2 z => le.keep k2 (s1.inv.dom k2 z) fun q => hot.1 (only k2 q ▸ z)
   have inv2 : Inv B Z2 M2 ρ a' := by
    refine ⟨s1.inv.len, hd2, fun i t es => ?_, s1.inv.sep, s1.inv.base, Nat.le_trans s1.inv.bM le.len⟩
    obtain ⟨w, hw, q⟩ := s1.inv.at_ i t es
    refine ⟨w, hw, ?_⟩
    have tr : ∀ {k1 d1}, w = .ref k1 -> Hot Z1 M1 k1 d1 -> Hot Z2 M2 k1 d1 := fun {k1 d1} hv1 hh => by
     subst hv1
     have ns : ¬ ∃ j', some j = some j' /\ vs[j']? = some (.ref k1) := fun q => by
      have := only k1 q
      subst this
      exact hno i t es hw
     have hlt := hh.lt
     obtain ⟨nz, o, ho, ro⟩ := hh
     exact ⟨fun z => nz ((le.fz k1 hlt ns).mp z), o, (le.keep k1 hlt ns).trans ho, ro.mono zz mm⟩
    cases t with
    | fz d => exact Den.mono zz mm q
    | _ => obtain ⟨k1, hv1, hh⟩ := q; exact ⟨k1, hv1, tr hv1 hh⟩
   refine ⟨v, M2, Z2, by simp only [eA, f1]; exact f2, ⟨s1.le.trans le fun k2 q => .inr (only k2 q ▸ hnk), inv2, s1.ch, s1.back⟩, (rr.av hl1).less s1.le.len⟩
  ·cases e
 ·cases e
end
end Pu
namespace Pu
open PySem PySem.Spec PyProof.Rows L2 NdefX GenE Sh
section
variable {a : AEnv} {Q : Av × AEnv -> Prop} {QS : AOut × AEnv -> Prop} {QI : List Dv × Option (Nat × Sl) × AEnv -> Prop} {p q pa pb pc : Pe} {ua : Pa} {QB : Bool × Dv -> Prop} {i : Int} {e : Dv}
theorem w_pSet0 : W (pSet0 a) Q = Q (.v true (.ist []), a) := w_some
def stW (o : Option (Option Sl)) (QL : List Int -> Prop) : Prop := match o with
 | some (some (.own (.ist S))) => QL S
 | _ => False
theorem st_own {S : List Int} {QL : List Int -> Prop} : stW (some (some (.own (.ist S)))) QL = QL S := rfl
theorem w_setA {i : Nat} {QL : List Int -> Prop} : W (setA a i) QL = stW a[i]? QL := by
 unfold setA stW
 rcases h : a[i]? with _ | _ | s
 ·simp only [h, w_none]
 ·simp only [h, w_none]
 ·cases s with
  | own d => cases d <;> simp only [h, w_none, w_some]
  | _ => simp only [h, w_none]
theorem w_pSAdd {i : Nat} : W (pSAdd i p a) Q = W (setA a i) fun _ => W (p a) fun r => W (rd r.2 r.1) (inW fun j => W (setA r.2 i) fun S => S.length < 4000 /\ Q (.v false .non, r.2.set i (some (.own (.ist (addS S j)))))) := by
 unfold pSAdd
 simp only [w_bind]
 congr 1; funext _; congr 1; funext r
 congr 1; funext d
 cases d <;> first | (simp only [w_bind, w_if, in_int]; done) | (simp only [w_none]; rfl)
theorem o_sin {S : List Int} : W (dSIn (.int i) (.ist S)) QB = QB (false, .bl (decide (i ∈ S))) := w_some
theorem o_snotin {S : List Int} : W (dSNotIn (.int i) (.ist S)) QB = QB (false, .bl (!decide (i ∈ S))) := w_some
theorem w_pD1 : W (pD1 pa pb a) Q = W (pa a) fun r => W (pK pb r.2) (vW fun d a2 => W (rd a2 r.1) fun y => W (keyD y) fun k => Q (.v true (.dic [(k, d)]), a2)) := by
 unfold pD1
 simp only [w_bind]
 congr 1; funext r; congr 1; funext ⟨x, a2⟩
 cases x with
 | pl j => simp only [w_none]; rfl
 | v o d => cases o <;> first | (simp only [w_bind, w_map, v_v]; done) | (simp only [w_none]; rfl)
theorem w_pDGet2 : W (pDGet2 pa pb pc a) Q = W (pa a) fun r => W (rd r.2 r.1) fun d0 => isDicD d0 = true /\ W (pb r.2) fun s => W (pK pc s.2) (vW fun x a3 => W (rd a3 r.1) fun d => W (rd a3 s.1) fun y => W (dLookD d y) fun o => Q (.v false (o.getD x), a3)) := by
 unfold pDGet2
 simp only [w_bind]
 congr 1; funext r; congr 1; funext d0
 by_cases h : isDicD d0 = true
 ·simp only [h, if_true, true_and, w_bind]
  congr 1; funext s; congr 1; funext ⟨x, a3⟩
  cases x with
  | pl j => simp only [w_none]; rfl
  | v o d => cases o <;> first | (simp only [w_bind, w_map, v_v]; done) | (simp only [w_none]; rfl)
 ·rw [if_neg h, w_none]
  simp [h]
theorem d_dic {kvs : List (Key × Dv)} : isDicD (.dic kvs) = true := rfl
theorem d_dit {kvs : List (List Key × Dv)} : isDicD (.dit kvs) = true := rfl
theorem d_fdi {kvs : List (Key × Dv)} : isDicD (.fdi kvs) = true := rfl
theorem d_fdt {kvs : List (List Key × Dv)} : isDicD (.fdt kvs) = true := rfl
def lkW (o : Option (Option Sl)) (i : Nat) (a : AEnv) (Q : Av × AEnv -> Prop) : Prop := match o with
 | some (some (.own (.dic kvs))) => Q (.v false (.fdi kvs), a.set i (some (.fz (.fdi kvs))))
 | some (some (.own (.dit kvs))) => Q (.v false (.fdt kvs), a.set i (some (.fz (.fdt kvs))))
 | some (some (.fz (.fdi kvs))) => Q (.v false (.fdi kvs), a)
 | some (some (.fz (.fdt kvs))) => Q (.v false (.fdt kvs), a)
 | _ => False
theorem w_pLockV {i : Nat} : W (pLockV i a) Q = lkW a[i]? i a Q := by
 unfold pLockV lkW
 rcases h : a[i]? with _ | _ | s
 ·simp only [h, w_none]
 ·simp only [h, w_none]
 ·cases s with
  | own d => cases d <;> simp only [h, w_none, w_some]
  | fz d => cases d <;> simp only [h, w_none, w_some]
  | _ => simp only [h, w_none]
theorem lk_dic {i : Nat} {kvs : List (Key × Dv)} : lkW (some (some (.own (.dic kvs)))) i a Q = Q (.v false (.fdi kvs), a.set i (some (.fz (.fdi kvs)))) := rfl
theorem lk_dit {i : Nat} {kvs : List (List Key × Dv)} : lkW (some (some (.own (.dit kvs)))) i a Q = Q (.v false (.fdt kvs), a.set i (some (.fz (.fdt kvs)))) := rfl
theorem lk_fdi {i : Nat} {kvs : List (Key × Dv)} : lkW (some (some (.fz (.fdi kvs)))) i a Q = Q (.v false (.fdi kvs), a) := rfl
theorem lk_fdt {i : Nat} {kvs : List (List Key × Dv)} : lkW (some (some (.fz (.fdt kvs)))) i a Q = Q (.v false (.fdt kvs), a) := rfl
def kyW (QI : List Dv × Option (Nat × Sl) × AEnv -> Prop) : Av × AEnv -> Prop
 | (.v false (.fdi kvs), a) => QI (kvs.map fun kv => keyDv kv.1, none, a)
 | (.v false (.fdt kvs), a) => QI (kvs.map fun kv => .tup .trk (kv.1.map keyDv), none, a)
 | _ => False
theorem w_piKeys : W (piKeys p a) QI = W (p a) (kyW QI) := by
 unfold piKeys
 rw [w_bind]
 congr 1; funext ⟨x, a1⟩
 cases x with
 | pl j => simp only [w_none]; rfl
 | v o d => cases o <;> cases d <;> simp only [w_some, w_none] <;> rfl
theorem ky_fdi {kvs : List (Key × Dv)} : kyW QI (.v false (.fdi kvs), a) = QI (kvs.map fun kv => keyDv kv.1, none, a) := rfl
theorem ky_fdt {kvs : List (List Key × Dv)} : kyW QI (.v false (.fdt kvs), a) = QI (kvs.map fun kv => .tup .trk (kv.1.map keyDv), none, a) := rfl
theorem o_listD {kvs : List (Key × Dv)} : W (dListD (.dic kvs)) QB = QB (true, .lst (kvs.map fun kv => keyDv kv.1)) := w_some
def auW (o : Option (Option Sl)) (QL : Int -> Prop) : Prop := match o with
 | some (some (.fz (.int x))) => QL x
 | _ => False
theorem au_fz {x : Int} {QL : Int -> Prop} : auW (some (some (.fz (.int x)))) QL = QL x := rfl
theorem w_zAug {i : Nat} : W (zAug i p a) QS = auW a[i]? fun x => W (p a) fun r => W (rd r.2 r.1) (inW fun y => freeB r.2 i = true /\ QS (.nx, r.2.set i (some (.fz (.int (x + y)))))) := by
 unfold zAug auW
 rcases h : a[i]? with _ | _ | s
 ·simp only [h, w_none]
 ·simp only [h, w_none]
 ·cases s with
  | fz d =>
   cases d <;> first
    | (simp only [h, w_none]; done)
    | (simp only [h, w_bind]
       congr 1; funext r; congr 1; funext d
       cases d <;> first | (simp only [w_if, in_int]; done) | (simp only [w_none]; rfl))
  | _ => simp only [h, w_none]
theorem w_pIns {i : Nat} : W (pIns i pa pb a) Q = W (mutL a i) fun _ => W (pa a) fun r => W (pK pb r.2) (vW fun d a2 => W (rd a2 r.1) (inW fun j => W (mutL a2 i) fun m => (m.2.length < lim /\ 0 <= j /\ j < 2 ^ 63) /\ Q (.v false .non, a2.set i (some (m.1.put (.lst (m.2.take j.toNat ++ [d] ++ m.2.drop j.toNat))))))) := by
 unfold pIns
 simp only [w_bind]
 congr 1; funext _; congr 1; funext r; congr 1; funext ⟨x, a2⟩
 cases x with
 | pl j => simp only [w_none]; rfl
 | v o d =>
  cases o with
  | true => simp only [w_none]; rfl
  | false =>
   simp only [w_bind, v_v]
   congr 1; funext j
   cases j <;> first | (simp only [w_bind, w_if, in_int]; done) | (simp only [w_none]; rfl)
def ctW (j : Nat) (f : Pd) (Q : Av × AEnv -> Prop) (ys : List Av) (a : AEnv) (x : Option Av) : Prop := match x with
 | some (.v true d) => (ys.eraseIdx j).all (fun y => !isTmp y) = true /\ W (argsS a ys) fun ss => W (f (ss.set j (.io d))) fun q => Q (.v q.1.1 q.1.2, a)
 | _ => False
theorem w_callT {j : Nat} {f : Pd} : W (pCallT j f ua a) Q = W (ua a) fun r => ctW j f Q r.1 r.2 r.1[j]? := by
 unfold pCallT
 rw [w_bind]
 congr 1; funext ⟨ys, a1⟩
 simp only
 unfold ctW
 rcases h : ys[j]? with _ | y
 ·simp only [w_none]
 ·cases y with
  | pl i => simp only [w_none]
  | v o d =>
   cases o with
   | false => simp only [w_none]
   | true =>
    simp only [w_ite, w_bind, w_map, w_none]
    by_cases h3 : (ys.eraseIdx j).all (fun y => !isTmp y) = true
    ·rw [if_pos h3]
     simp only [h3, true_and]
    ·rw [if_neg h3]
     apply propext
     exact ⟨False.elim, fun ⟨x, _⟩ => h3 x⟩
theorem ct_v {j : Nat} {f : Pd} {ys : List Av} {d : Dv} : ctW j f Q ys a (some (.v true d)) = ((ys.eraseIdx j).all (fun y => !isTmp y) = true /\ W (argsS a ys) fun ss => W (f (ss.set j (.io d))) fun q => Q (.v q.1.1 q.1.2, a)) := rfl
theorem tm_f {d : Dv} : isTmp (.v false d) = false := rfl
theorem tm_pl {i : Nat} : isTmp (.pl i) = false := rfl
theorem g_dic {kvs : List (Key × Dv)} : W (dIxG (.dic kvs) e) QB = W (dDG (.dic kvs) e) QB := rfl
theorem g_dit {kvs : List (List Key × Dv)} : W (dIxG (.dit kvs) e) QB = W (dDG (.dit kvs) e) QB := rfl
theorem g_fdi {kvs : List (Key × Dv)} : W (dIxG (.fdi kvs) e) QB = W (dDG (.fdi kvs) e) QB := rfl
theorem g_fdt {kvs : List (List Key × Dv)} : W (dIxG (.fdt kvs) e) QB = W (dDG (.fdt kvs) e) QB := rfl
theorem g_tup {t : Tk} {xs : List Dv} : W (dIxG (.tup t xs) e) QB = W (dIx (.tup t xs) e) QB := rfl
theorem g_lst {xs : List Dv} : W (dIxG (.lst xs) e) QB = W (dIx (.lst xs) e) QB := rfl
theorem o_lookFK {kvs : List (Key × Dv)} {QL : Option Dv -> Prop} : W (dLookD (.fdi kvs) e) QL = W (keyD e) fun k => QL (lookD kvs k) := by simp only [dLookD, w_map]
theorem o_lookFT {kvs : List (List Key × Dv)} {QL : Option Dv -> Prop} : W (dLookD (.fdt kvs) e) QL = W (tkeyD e) fun k => QL (lookD kvs k) := by simp only [dLookD, w_map]
end
end Pu
namespace Sh
open PySem.AutoSeq1
open PySem PySem.Spec PyProof.Rows L2 NdefX GenE
end Sh
namespace Pu
open PySem PySem.Spec PyProof.Rows L2 NdefX GenE Sh
section
variable {f : Fe} {p : Pe} {a : AEnv} {QI : List Dv × Option (Nat × Sl) × AEnv -> Prop}
def piItems (p : Pe) : Pi := fun a => (p a).bind fun r => match r.1 with
 | .v false (.fdi kvs) => some (kvs.map fun kv => .tup .trk [keyDv kv.1, kv.2], none, r.2)
 | .v false (.fdt kvs) => some (kvs.map fun kv => .tup .trk [.tup .trk (kv.1.map keyDv), kv.2], none, r.2)
 | _ => none
def itW (QI : List Dv × Option (Nat × Sl) × AEnv -> Prop) : Av × AEnv -> Prop
 | (.v false (.fdi kvs), a) => QI (kvs.map fun kv => .tup .trk [keyDv kv.1, kv.2], none, a)
 | (.v false (.fdt kvs), a) => QI (kvs.map fun kv => .tup .trk [.tup .trk (kv.1.map keyDv), kv.2], none, a)
 | _ => False
theorem w_piItems : W (piItems p a) QI = W (p a) (itW QI) := by
 unfold piItems
 rw [w_bind]
 congr 1; funext ⟨x, a1⟩
 cases x with
 | pl j => simp only [w_none]; rfl
 | v o d => cases o <;> cases d <;> simp only [w_some, w_none] <;> rfl
theorem it_fdi {kvs : List (Key × Dv)} : itW QI (.v false (.fdi kvs), a) = QI (kvs.map fun kv => .tup .trk [keyDv kv.1, kv.2], none, a) := rfl
theorem it_fdt {kvs : List (List Key × Dv)} : itW QI (.v false (.fdt kvs), a) = QI (kvs.map fun kv => .tup .trk [.tup .trk (kv.1.map keyDv), kv.2], none, a) := rfl
variable {y : Av} {Q : Av × AEnv -> Prop}
def itsD : Dv -> Option (List Dv)
 | .lst ys => some ys
 | .tup _ ys => some ys
 | _ => none
def pExtX (i : Nat) (p : Pe) : Pe := fun a => (mutL a i).bind fun _ => (p a).bind fun r => (rd r.2 r.1).bind fun d => (itsD d).bind fun ys => (mutL r.2 i).bind fun s => if s.2.length + ys.length <= lim then some (.v false .non, r.2.set i (some (s.1.put (.lst (s.2 ++ ys))))) else none
theorem w_pExtX {i : Nat} : W (pExtX i p a) Q = mW a[i]? fun _ => W (p a) fun r => W (rd r.2 r.1) fun d => W (itsD d) fun ys => mW r.2[i]? fun s => s.2.length + ys.length <= lim /\ Q (.v false .non, r.2.set i (some (s.1.put (.lst (s.2 ++ ys))))) := by
 simp only [pExtX, w_bind, w_mutL, w_if]
theorem its_l {ys : List Dv} {QL : List Dv -> Prop} : W (itsD (.lst ys)) QL = QL ys := w_some
theorem its_t {t : Tk} {ys : List Dv} {QL : List Dv -> Prop} : W (itsD (.tup t ys)) QL = QL ys := w_some
end
end Pu
namespace Pu
open PySem PySem.Spec PyProof.Rows L2 NdefX GenE Sh
end Pu
namespace Pu
open PySem PySem.Spec PyProof.Rows L2 NdefX GenE Sh
abbrev Pb := AEnv -> Dv -> Option (AEnv × Dv)
def cpA (g : Pg) (t : Pt) (pb : Pb) (vs : List Nat) : List Dv -> AEnv -> Dv -> Option (Dv × AEnv)
 | [], a, acc => some (acc, a)
 | d :: ds, a, acc => (g d a).bind fun a1 => (t a1).bind fun r => if r.1 = true then (pb r.2 acc).bind fun s => cpA g t pb vs ds (wipeA s.1 vs) s.2
  else cpA g t pb vs ds (wipeA r.2 vs) acc
section
variable {k B : Nat} {ρ ρ1 ρ2 : Sh.Env} {Z Z1 Z2 : Nat -> Prop} {M M1 M2 : Mem} {a a1 a2 : AEnv}
end
def pCp (d0 : Dv) (vs : List Nat) (pi : Pi) (g : Pg) (t : Pt) (pb : Pb) : Pe := fun a => (pi a).bind fun r => if fzB r.2.2 vs = true then (cpA g t pb vs r.1 (wipeA r.2.2 vs) d0).map fun s => (.v true s.1, unhold (unwipe r.2.2 s.2 vs) r.2.1) else none
def pbApp (p : Pe) : Pb := fun a acc => (pK p a).bind fun s => match s.1, acc with
 | .v false y, .lst xs => if xs.length < lim then some (s.2, .lst (xs ++ [y])) else none
 | _, _ => none
def putDv (acc y v : Dv) : Option Dv := match acc with
 | .dic kvs => (keyD y).bind fun k => if kvs.length < lim then some (.dic (putD kvs k v)) else none
 | .dit kvs => (tkeyD y).bind fun k => if kvs.length < lim then some (.dit (putD kvs k v)) else none
 | _ => none
def pbPut (pk pv : Pe) : Pb := fun a acc => (pk a).bind fun r => (pK pv r.2).bind fun s => match s.1 with
 | .v false v => (rd s.2 r.1).bind fun y => (putDv acc y v).map fun acc' => (s.2, acc')
 | _ => none
def noB (a : AEnv) (vs : List Nat) : Bool := vs.all fun v => match a[v]? with
 | some (some _) => false
 | _ => true
def pbTwo (vs1 : List Nat) (pi : Pi) (g : Pg) (t : Pt) (pb : Pb) : Pb := fun a acc => (pi a).bind fun r => match r.2.1 with
 | none => if noB r.2.2 vs1 = true then (cpA g t pb vs1 r.1 (wipeA r.2.2 vs1) acc).map fun s => (s.2, s.1) else none
 | some _ => none
end Pu
namespace Pu
open PySem PySem.Spec PyProof.Rows L2 NdefX GenE Sh
section
variable {k B : Nat} {ρ ρ1 : Sh.Env} {Z Z1 : Nat -> Prop} {M M1 : Mem} {a a1 : AEnv} {f fa fb fk fv : Fe} {p pa pb pk pv : Pe}
end
section
variable {a : AEnv} {Q : Av × AEnv -> Prop} {g : Pg} {u : Pt} {pb : Pb} {vs : List Nat} {pi : Pi} {p pk pv : Pe} {acc d0 : Dv} {QB : AEnv × Dv -> Prop} {QC : Dv × AEnv -> Prop}
theorem w_pCp : W (pCp d0 vs pi g u pb a) Q = W (pi a) fun r => fzB r.2.2 vs = true /\ W (cpA g u pb vs r.1 (wipeA r.2.2 vs) d0) fun s => Q (.v true s.1, unhold (unwipe r.2.2 s.2 vs) r.2.1) := by
 unfold pCp
 rw [w_bind]
 congr 1; funext r
 by_cases h : fzB r.2.2 vs = true
 ·simp only [h, if_true, w_map, true_and]
 ·rw [if_neg h, w_none]
  simp [h]
theorem w_pbPut : W (pbPut pk pv a acc) QB = W (pk a) fun r => W (pK pv r.2) (vW fun v a2 => W (rd a2 r.1) fun y => W (putDv acc y v) fun acc' => QB (a2, acc')) := by
 unfold pbPut
 rw [w_bind]
 congr 1; funext r
 rw [w_bind]
 congr 1; funext ⟨x, a2⟩
 cases x with
 | pl i => simp only [w_none]; rfl
 | v o d =>
  cases o
  ·simp only [w_bind, w_map, v_v]
  ·simp only [w_none]; rfl
theorem put_dic {kvs : List (Key × Dv)} {y v : Dv} {QD : Dv -> Prop} : W (putDv (.dic kvs) y v) QD = W (keyD y) fun k => kvs.length < lim /\ QD (.dic (putD kvs k v)) := by simp only [putDv, w_bind, w_if]
theorem put_dit {kvs : List (List Key × Dv)} {y v : Dv} {QD : Dv -> Prop} : W (putDv (.dit kvs) y v) QD = W (tkeyD y) fun k => kvs.length < lim /\ QD (.dit (putD kvs k v)) := by simp only [putDv, w_bind, w_if]
theorem w_pbApp {xs : List Dv} : W (pbApp p a (.lst xs)) QB = W (pK p a) (vW fun y a2 => xs.length < lim /\ QB (a2, .lst (xs ++ [y]))) := by
 unfold pbApp
 rw [w_bind]
 congr 1; funext ⟨x, a2⟩
 cases x with
 | pl i => simp only [w_none]; rfl
 | v o d =>
  cases o
  ·simp only [w_if, v_v]
  ·simp only [w_none]; rfl
theorem w_pbTwo {vs1 : List Nat} : W (pbTwo vs1 pi g u pb a acc) QB = W (pi a) fun r => r.2.1 = none /\ noB r.2.2 vs1 = true /\ W (cpA g u pb vs1 r.1 (wipeA r.2.2 vs1) acc) fun s => QB (s.2, s.1) := by
 unfold pbTwo
 rw [w_bind]
 congr 1; funext ⟨ds, h, a1⟩
 cases h with
 | some x => simp only [w_none]; simp
 | none =>
  by_cases hb : noB a1 vs1 = true
  ·simp only [hb, if_true, w_map, true_and]
  ·simp only [hb, if_false, w_none]
   simp [w_none]
end
end Pu
namespace Sh
open PySem PySem.Spec PyProof.Rows L2 NdefX GenE
def uqS (l : List Int) (v : Int) : List Int := if v ∈ l then l else l ++ [v]
def uq (ns : List Int) : List Int := ns.foldl uqS []
end Sh
namespace Pu
open PySem PySem.Spec PyProof.Rows L2 NdefX GenE Sh
section
variable {f : Fe} {p : Pe} {a : AEnv} {Q : Av × AEnv -> Prop}
def lenSetD : Dv -> Option Nat
 | .tup _ xs => (intsD xs).bind fun ns => if ns.length <= 1000 then some (uq ns).length else none
 | .lst xs => (txtsD xs).bind fun ys => if ys.length <= 1000 then some (SetS.met ys).length else none
 | _ => none
def pLenSetX (p : Pe) : Pe := fun a => (p a).bind fun r => (rd r.2 r.1).bind fun d => (lenSetD d).map fun (n : Nat) => (.v false (.int (n : Int)), r.2)
theorem w_pLenSetX : W (pLenSetX p a) Q = W (p a) fun r => W (rd r.2 r.1) fun d => W (lenSetD d) fun (n : Nat) => Q (.v false (.int (n : Int)), r.2) := by simp only [pLenSetX, w_bind, w_map]
theorem ls_t {t : Tk} {xs : List Dv} {QL : Nat -> Prop} : W (lenSetD (.tup t xs)) QL = W (intsD xs) fun ns => ns.length <= 1000 /\ QL (uq ns).length := by simp only [lenSetD, w_bind, w_if]
end
end Pu
namespace Sh
open PySem PySem.Spec PyProof.Rows L2 NdefX GenE
end Sh
namespace Pu
open PySem PySem.Spec PyProof.Rows L2 NdefX GenE Sh
def dMulL : Dv -> Dv -> Option (Bool × Dv)
 | .lst xs, .int n => if 0 <= n /\ n <= 1000 /\ xs.length <= 100 then some (true, .lst (List.replicate n.toNat xs).flatten) else none
 | _, _ => none
theorem o_mulL {xs : List Dv} {n : Int} {Q : Bool × Dv -> Prop} : W (dMulL (.lst xs) (.int n)) Q = ((0 <= n /\ n <= 1000 /\ xs.length <= 100) /\ Q (true, .lst (List.replicate n.toNat xs).flatten)) := by simp only [dMulL, w_if]
end Pu
namespace Pu
open PySem PySem.Spec PyProof.Rows L2 NdefX GenE Sh
end Pu
namespace Pu
open PySem PySem.Spec PyProof.Rows L2 NdefX GenE Sh
def pColG2 (fin : List Dv -> Option (Bool × Dv)) (n : Nat) (js vs : List Nat) (pi : Pi) (g : Pg) (t : Pt) (pb : Pb) : Pe := fun a => (pi a).bind fun r => (cpA g t pb vs r.1 (gen0A n js r.2.2) (.lst [])).bind fun s => match s.1 with
 | .lst acc => (fin acc).map fun q => (.v q.1 q.2, unhold r.2.2 r.2.1)
 | _ => none
end Pu
namespace Pu
open PySem PySem.Spec PyProof.Rows L2 NdefX GenE Sh
def pairDT : Dv -> Option (List Key × Dv)
 | .tup _ [k, v] => (tkeyD k).map fun k => (k, v)
 | _ => none
def mergeDT (kvs more : List (List Key × Dv)) : List (List Key × Dv) := more.foldl (fun acc kv => putD acc kv.1 kv.2) kvs
def dDictT : Dv -> Option (Bool × Dv)
 | .lst xs => match mapO pairDT xs with
  | some kvs => some (true, .dit (mergeDT [] kvs))
  | none => none
 | _ => none
def dListT : Dv -> Option (Bool × Dv)
 | .dit kvs => some (true, .lst (kvs.map fun kv => .tup .trk (kv.1.map keyDv)))
 | .fdt kvs => some (true, .lst (kvs.map fun kv => .tup .trk (kv.1.map keyDv)))
 | _ => none
end Pu
namespace Sh
open PySem PySem.Spec PyProof.Rows L2 NdefX GenE
def rLtD (K : PySem.W.Frag) : R2 := fun x y H Q => ∃ d e, Dp K H x d /\ Dp K H y e /\ PySem.W.alike d e = true /\ d ≠ .none /\ d.depth <= 64 /\ Q (.bl (PySem.W.dataLt d e)) H
theorem op_ltD {X : Cx} (hu : X.A.units + 65 < cLine) : OpR X (compareOp .Lt) (rLtD X.K) := by
 intro pins s σ H x y v u Q I rx ry h
 obtain ⟨d, e, hd, he, al, nn, dp, q⟩ := h
 obtain ⟨as, r1⟩ := Dp.reads I d x v hd rx
 obtain ⟨bs, r2⟩ := Dp.reads I e y u he ry
 exact PySem.W.lt_data r1 r2 al nn (by have := Nat.min_le_left d.depth e.depth; omega) ⟨.bl _, H, I, rfl, q⟩
def notNone : PyData -> Bool
 | .none => false
 | _ => true
def vLtD : Vl -> Vl -> Mem -> Option (Vl × Mem) := fun x y M => match toD 20 M x, toD 20 M y with
 | some d, some e => if PySem.W.alike d e = true /\ notNone d = true then some (.bl (PySem.W.dataLt d e), M) else none
 | _, _ => none
theorem op2_ltD {F : Fam} : Op2 F (compareOp .Lt) vLtD := by
 refine ⟨_, fun i => F.hK i ▸ op_ltD (X := F.X i) (by have := (F.hr i).un; omega), ?_⟩
 intro H μ M x y wx wy v M' Q h rx ry rs q
 unfold vLtD at h
 split at h
 ·split at h
  ·rename_i hc
   cases h
   obtain ⟨a1, a2, a3⟩ := toD_ok rs 20 x wx _ (by assumption) rx
   obtain ⟨b1, b2, b3⟩ := toD_ok rs 20 y wy _ (by assumption) ry
   exact ⟨_, _, a1, b1, hc.1, fun z => (by rw [z] at hc; cases hc.2), Nat.le_trans a3 (by decide), q _ μ H (Ext.refl _ _) (.bl _) rs⟩
  ·cases h
 ·cases h
end Sh
namespace Pu
open PySem PySem.Spec PyProof.Rows L2 NdefX GenE Sh
def dLtD : Dv -> Dv -> Option (Bool × Dv) := fun x y => match toDD 20 x, toDD 20 y with
 | some d, some e => if PySem.W.alike d e = true /\ notNone d = true then some (false, .bl (PySem.W.dataLt d e)) else none
 | _, _ => none
theorem r_ltD : Op2R vLtD dLtD := by
 intro Z M v w d e o r hv hw h
 unfold dLtD at h
 split at h
 ·rename_i h1 h2
  split at h
  ·rename_i hc
   cases h
   refine ⟨_, by unfold vLtD; rw [toD_eq hv, toD_eq hw, h1, h2]; simp only; rw [if_pos hc], .bl _⟩
  ·cases h
 ·cases h
end Pu
namespace Pu
open PySem PySem.Spec PyProof.Rows L2 NdefX GenE Sh
def keysDv (kvs : List (List Key × Dv)) : List Dv := kvs.map fun kv => .tup .trk (kv.1.map keyDv)
def dSortT : Dv -> Option (Bool × Dv)
 | .dit kvs => dSorted (.lst (keysDv kvs))
 | _ => none
end Pu
namespace Pu
open PySem PySem.Spec PyProof.Rows L2 NdefX GenE Sh
/-- no slot tells of k -/
def Unr (ρ : Sh.Env) (a : AEnv) (k : Nat) : Prop := ∀ (j : Nat) (s : Sl), a[j]? = some (some s) -> ρ[j]? ≠ some (some (.ref k))
section
variable {B k : Nat} {ρ ρ1 ρ0 : Sh.Env} {Z Z1 Z0 : Nat -> Prop} {M M1 M0 : Mem} {a a1 a0 : AEnv}
theorem Unr.mu (h : Unr ρ a k) : ¬ Mu ρ a k := fun ⟨i, s, h1, _, h3⟩ => h i s h1 h3
theorem Inv.frz (inv : Inv B Z M ρ a) {js : List Nat} (h : ∀ j ∈ js, j < M.length /\ Unr ρ a j) : Inv B (fun k => Z k \/ k ∈ js) M ρ a := by
 refine ⟨inv.len, fun j z => z.elim (inv.dom j) fun z => (h j z).1, fun i s e => ?_, inv.sep, inv.base, inv.bM⟩
 obtain ⟨v, hv, r⟩ := inv.at_ i s e
 refine ⟨v, hv, ?_⟩
 cases s with
 | fz d => exact Den.mono (fun _ z => .inl z) (fun _ _ => rfl) r
 | _ =>
  obtain ⟨k1, rfl, nz1, o1, ho1, r1⟩ := r
  exact ⟨k1, rfl, fun z => z.elim nz1 fun z => (h k1 z).2 i _ e hv, o1, ho1, r1.mono (fun _ z => .inl z) fun _ _ => rfl⟩
theorem StS.app (x : StS B ρ0 Z0 M0 a0 ρ Z M a) {o : Ob} : StS B ρ0 Z0 M0 a0 ρ Z (M ++ [o]) a := x.trans (Stp.app x.inv).st
theorem Unr.new (inv : Inv B Z M ρ a) : Unr ρ a M.length := fun j s e c => Nat.lt_irrefl _ (inv.lt e c)
end
section
variable {Z Z1 : Nat -> Prop} {M M1 : Mem}
end
section
variable {B n1 i : Nat} {ρ ρ1 ρ0 : Sh.Env} {Z Z1 Z0 : Nat -> Prop} {M M1 M0 : Mem} {a a1 a0 : AEnv} {G : List (Key × List Dv)}
variable {fk fe : Fe} {pk pe : Pe}
end
end Pu
namespace Sh
open PySem PySem.Spec PyProof.Rows L2 NdefX GenE
end Sh
namespace Pu
open PySem PySem.Spec PyProof.Rows L2 NdefX GenE Sh
end Pu
namespace Sh
open PySem PySem.Spec PyProof.Rows L2 NdefX GenE
open GxR (TabB TabG Tabbed)
/-- the exception's class and dict, as the value tells them -/
def Rx (K : PySem.W.Frag) (mg : Str -> Option Value) (μ : List Addr) (H : Hp) (c n : Str) (xs : List Vl) (cls : Value) (d : Option Addr) : Prop :=
 mg c = some cls /\ match xs with
 | [] => d = none
 | x :: _ => ∃ dx w, d = some dx /\ H dx = some (.xd [(n, w)]) /\ Rv K μ H x w
/-- what is wanted of an exception, met by what flies -/
def WOk (K : PySem.W.Frag) (T : Tb) (mg : Str -> Option Value) (μ : List Addr) (H : Hp) (W : WX) (c n : Str) (xs : List Vl) (ρ' : Env) (M' : Mem) : Prop :=
 ∀ cls d σ' μ' H', Ext μ H μ' H' -> Rσ K μ' H' ρ' σ' -> Rx K mg μ' H' c n xs cls d -> RS K T μ' H' M' -> W cls d σ' H'
theorem WOk.ext {K : PySem.W.Frag} {T : Tb} {mg : Str -> Option Value} {μ μ' : List Addr} {H H' : Hp} {W : WX} {c n : Str} {xs : List Vl} {ρ : Env} {M : Mem} (h : WOk K T mg μ H W c n xs ρ M) (e : Ext μ H μ' H') : WOk K T mg μ' H' W c n xs ρ M :=
 fun cls d σ' μ2 H2 e2 => h cls d σ' μ2 H2 (e.trans e2)
abbrev XOk (K : PySem.W.Frag) (T : Tb) (mg : Str -> Option Value) (μ : List Addr) (H : Hp) (W : WX) (o : Out) (ρ' : Env) (M' : Mem) : Prop := ∀ c n xs, o = .rt (.exc c n xs) -> WOk K T mg μ H W c n xs ρ' M'
def SemSX (K : PySem.W.Frag) (T : Tb) (mg : Str -> Option Value) (W : WX) (ts : TS) (f : Fs) : Prop := ∀ (σ : L2.St) (H : Hp) (μ : List Addr) (ρ : Env) (M : Mem) (o : Out) (ρ' : Env) (M' : Mem) (D : Ends), f ρ M = some (o, ρ', M') -> Rσ K μ H ρ σ -> RS K T μ H M ->
 EndOk K T μ H D o ρ' M' -> XOk K T mg μ H W o ρ' M' -> ts D σ H
def SemEX (K : PySem.W.Frag) (T : Tb) (mg : Str -> Option Value) (W : WX) (te : TE) (f : Fe) : Prop := ∀ (σ : L2.St) (H : Hp) (μ : List Addr) (ρ : Env) (M : Mem) (v : Vl) (M' : Mem) (Q : VK), f ρ M = some (v, M') -> Rσ K μ H ρ σ -> RS K T μ H M ->
 (∀ w μ' H', Ext μ H μ' H' -> Rv K μ' H' v w -> RS K T μ' H' M' -> Q w H') -> (∀ c n xs, v = .exc c n xs -> ∀ cls d μ' H', Ext μ H μ' H' -> Rx K mg μ' H' c n xs cls d -> RS K T μ' H' M' -> W cls d σ H') -> te σ H Q
/-- a family of contexts that let exceptions out -/
structure FamX extends Fam where
 W : ι -> WX
 tk : ∀ i, L2N.Takes (X i) (W i)
def SSX (F : FamX) (st : Stmt) (f : Fs) : Prop := ∀ W, ∃ ts, (∀ i, F.W i = W -> PS (F.X i) st ts) /\ SemSX F.K F.T F.mg W ts f
def SSsX (F : FamX) (st : List Stmt) (f : Fs) : Prop := ∀ W, ∃ ts, (∀ i, F.W i = W -> PSs (F.X i) st ts) /\ SemSX F.K F.T F.mg W ts f
def SEX (F : FamX) (e : Expr) (f : Fe) : Prop := ∀ W, ∃ te, (∀ i, F.W i = W -> PE (F.X i) e te) /\ SemEX F.K F.T F.mg W te f
section
variable {F : FamX} {e a b c o tg iter : Expr} {f fa fb fc : Fe} {pos p apos : Pos} {es : List Expr} {g : Fa} {t : Ft} {st : Stmt} {sts sts' : List Stmt} {s s' : Fs}
theorem ssx_of (h : SS F.toFam st s) : SSX F st s := fun W => by
 obtain ⟨ts, p, sm⟩ := h
 exact ⟨ts, fun i _ => p i, fun σ H μ ρ M o ρ' M' D e rσ rs q _ => sm σ H μ ρ M o ρ' M' D e rσ rs q⟩
theorem sssx_of (h : SSs F.toFam sts s) : SSsX F sts s := fun W => by
 obtain ⟨ts, p, sm⟩ := h
 exact ⟨ts, fun i _ => p i, fun σ H μ ρ M o ρ' M' D e rσ rs q _ => sm σ H μ ρ M o ρ' M' D e rσ rs q⟩
theorem ssx_nil : SSsX F [] sNil := sssx_of ss_nil
theorem ssx_cons (h1 : SSX F st s) (h2 : SSsX F sts s') : SSsX F (st :: sts) (sCons s s') := fun W => by
 obtain ⟨ta, pa, sa⟩ := h1 W
 obtain ⟨tb, pb, sb⟩ := h2 W
 refine ⟨_, fun i ei => pss_cons (pa i ei) (pb i ei), fun σ H μ ρ M o ρ' M' D h rσ rs q x => ?_⟩
 unfold sCons at h
 split at h
 ·exact sa σ H μ ρ M .nx _ _ _ (by assumption) rσ rs (fun σ1 μ1 H1 e1 r1 s1 => sb σ1 H1 μ1 _ _ o ρ' M' D h r1 s1 (q.ext e1) fun c n xs eo => (x c n xs eo).ext e1) (fun _ _ _ z => nomatch z)
 ·rename_i hne
  cases o with
  | nx => exact (hne _ _ h).elim
  | rt v => exact sa σ H μ ρ M (.rt v) ρ' M' _ h rσ rs q x
  | bk => exact sa σ H μ ρ M .bk ρ' M' _ h rσ rs q x
  | ct => exact sa σ H μ ρ M .ct ρ' M' _ h rσ rs q x
theorem ssx_one (h1 : SSX F st s) : SSsX F [st] s := fun W => by
 obtain ⟨ta, pa, sa⟩ := h1 W
 exact ⟨ta, fun i ei => pss_one (pa i ei), sa⟩
theorem ssx_if (hc : ST F.toFam c t) (ha : SSsX F sts s) (hb : SSsX F sts' s') : SSX F (.If c sts sts' pos) (sIf t s s') := fun W => by
 obtain ⟨tc, pc, sc⟩ := hc
 obtain ⟨ta, pa, sa⟩ := ha W
 obtain ⟨tb, pb, sb⟩ := hb W
 refine ⟨_, fun i ei => ps_if (pc i) (pa i ei) (pb i ei), fun σ H μ ρ M o ρ' M' D h rσ rs q x => ?_⟩
 unfold sIf at h
 split at h
 ·refine sc σ H μ ρ M _ _ _ (by assumption) rσ rs fun μ1 H1 e1 s1 => ?_
  show (if true = true then _ else _)
  rw [if_pos rfl]
  exact sa σ H1 μ1 ρ _ o ρ' M' D h (rσ.ext e1) s1 (q.ext e1) fun c n xs eo => (x c n xs eo).ext e1
 ·refine sc σ H μ ρ M _ _ _ (by assumption) rσ rs fun μ1 H1 e1 s1 => ?_
  show (if false = true then _ else _)
  rw [if_neg (by simp)]
  exact sb σ H1 μ1 ρ _ o ρ' M' D h (rσ.ext e1) s1 (q.ext e1) fun c n xs eo => (x c n xs eo).ext e1
 ·cases h
theorem ssx_for {fi : Fi} {fg : Fg} {ks : List Nat} {body : List Stmt} (hi : SI F.toFam tg iter fi) (hg : SG F.toFam tg fg ks) (hb : SSsX F body s) (hs : ∀ env x, foldedSetIterable iter env x = pure x := by intro _ _; rfl) :
  SSX F (.For tg iter body [] pos) (sFor fi fg s) := fun W => by
 obtain ⟨wi, pi, si⟩ := hi
 obtain ⟨tg', pg, sg⟩ := hg
 obtain ⟨tb, pb, sb⟩ := hb W
 refine ⟨_, fun j ej => ps_for (F.hp j) (F.hcalm j) (pi j) (pg j) (pb j ej) (hs _), fun σ H μ ρ M o ρ' M' D h rσ rs q x => ?_⟩
 unfold sFor at h
 split at h
 ·rename_i _ src n M1 h1
  refine si σ H μ ρ M _ _ _ _ h1 rσ rs fun J μ1 H1 e1 s1 it => ?_
  refine ⟨fun i m σ' H' => ∃ μ' ρ1 M2, Ext μ1 H1 μ' H' /\ Rσ F.K μ' H' ρ1 σ' /\ RS F.K F.T μ' H' M2 /\ forL src fg s m i ρ1 M2 = some (o, ρ', M'), ⟨n, μ1, ρ, M1, Ext.refl _ _, rσ.ext e1, s1, h⟩, ?_⟩
  rintro i m σ2 H2 ⟨μ2, ρ2, M2, e2, r2, s2, h2⟩
  have stop : ∀ (xs : List Vl), src M2 = some xs -> xs[i]? = none -> some (Out.nx, ρ2, M2) = some (o, ρ', M') -> J.stop i H2 /\ D.nx σ2 H2 := fun xs hx hn he => by
   cases he
   exact ⟨(it i μ2 H2 _ xs e2 s2 hx).1 hn, q σ2 μ2 H2 (e1.trans e2) r2 s2⟩
  cases m with
  | zero =>
   unfold forL at h2
   split at h2
   ·split at h2
    ·exact .inl (stop _ (by assumption) (by assumption) h2)
    ·cases h2
   ·cases h2
  | succ m =>
   unfold forL at h2
   split at h2
   ·rename_i _ xs hx
    split at h2
    ·exact .inl (stop _ (by assumption) (by assumption) h2)
    ·rename_i _ x1 hxi
     obtain ⟨go, yl⟩ := (it i μ2 H2 M2 xs e2 s2 hx).2 x1 hxi
     refine .inr ⟨go, fun σ' H' => ∃ μ' ρ1 M3, Ext μ1 H1 μ' H' /\ Rσ F.K μ' H' ρ1 σ' /\ RS F.K F.T μ' H' M3 /\ forL src fg s m (i + 1) ρ1 M3 = some (o, ρ', M'), fun σ' H' hN => ⟨m, Nat.lt_succ_self _, hN⟩, fun w H3 hy => ?_⟩
     obtain ⟨e3, r3, s3⟩ := yl w H3 hy
     split at h2
     ·refine sg σ2 H3 μ2 ρ2 M2 x1 w _ _ _ (by assumption) r3 (r2.ext e3) s3 fun σ4 μ4 H4 e4 r4 s4 _ => ?_
      have e14 := (e2.trans e3).trans e4
      split at h2
      ·refine sb σ4 H4 μ4 _ _ .nx _ _ _ (by assumption) r4 s4 (fun σ5 μ5 H5 e5 r5 s5 => ⟨μ5, _, _, e14.trans e5, r5, s5, h2⟩) (fun _ _ _ z => nomatch z)
      ·refine sb σ4 H4 μ4 _ _ .ct _ _ _ (by assumption) r4 s4 (fun σ5 μ5 H5 e5 r5 s5 => ⟨μ5, _, _, e14.trans e5, r5, s5, h2⟩) (fun _ _ _ z => nomatch z)
      ·cases h2
       refine sb σ4 H4 μ4 _ _ .bk _ _ _ (by assumption) r4 s4 (fun σ5 μ5 H5 e5 r5 s5 => q σ5 μ5 H5 ((e1.trans e14).trans e5) r5 s5) (fun _ _ _ z => nomatch z)
      ·cases h2
       exact sb σ4 H4 μ4 _ _ (.rt _) _ _ _ (by assumption) r4 s4 (fun w5 μ5 H5 e5 r5 s5 => q w5 μ5 H5 ((e1.trans e14).trans e5) r5 s5) fun c n xs eo => (x c n xs eo).ext (e1.trans e14)
      ·cases h2
     ·cases h2
   ·cases h2
 ·cases h
/-- tg = e, e perhaps raising -/
def sAsgX (f : Fe) (g : Fg) : Fs := fun ρ M => match f ρ M with
 | some (.exc c n xs, M1) => some (.rt (.exc c n xs), ρ, M1)
 | some (v, M1) => match g v ρ M1 with
  | some (ρ1, M2) => some (.nx, ρ1, M2)
  | none => none
 | none => none
theorem semAsgX {te : TE} {t : TG} {fg : Fg} {ks : List Nat} {W : WX} (he : SemEX F.K F.T F.mg W te f) (hg : ∀ (σ : L2.St) (H : Hp) (μ : List Addr) (ρ : Env) (M : Mem) (v : Vl) (w : V) (ρ' : Env) (M' : Mem) (Q : L2.St -> Hp -> Prop), fg v ρ M = some (ρ', M') -> Rv F.K μ H v w -> Rσ F.K μ H ρ σ -> RS F.K F.T μ H M ->
  (∀ σ' μ' H', Ext μ H μ' H' -> Rσ F.K μ' H' ρ' σ' -> RS F.K F.T μ' H' M' -> Only ks σ σ' -> Q σ' H') -> t w σ H Q) : SemSX F.K F.T F.mg W (tAsg te t) (sAsgX f fg) := by
 intro σ H μ ρ M o ρ' M' D h rσ rs q x
 unfold sAsgX at h
 split at h
 ·rename_i c n xs M1 h1
  cases h
  refine he σ H μ ρ M _ _ _ h1 rσ rs (fun w1 μ1 H1 e1 r1 s1 => nomatch r1) fun c n xs ev cls d μ' H' e1 rx s1 => x c n xs (by rw [ev]) cls d σ μ' H' e1 (rσ.ext e1) rx s1
 ·rename_i v M1 hne h1
  split at h
  ·cases h
   refine he σ H μ ρ M _ _ _ h1 rσ rs (fun w1 μ1 H1 e1 r1 s1 => ?_) (fun c n xs ev => ?_)
   ·exact hg σ H1 μ1 ρ _ v w1 _ _ _ (by assumption) r1 (rσ.ext e1) s1 fun σ2 μ2 H2 e2 r2 s2 _ => q σ2 μ2 H2 (e1.trans e2) r2 s2
   ·exact (hne c n xs ev).elim
  ·cases h
 ·cases h
theorem ssx_set {x : Str} (i : Nat) (hN : F.N.Nodup) (he : SEX F e f) (hi : F.N[i]? = some x := by rfl) (hx : LocF F.toFam x := by first | exact Or.inl rfl | exact Or.inr ⟨rfl, rfl⟩) (hs : ∀ env, swapsWith e (some (.Name x p)) pos.line env = pure false := by intro _; rfl) :
  SSX F (.Assign [.Name x p] e pos) (sAsgX f (gN i)) := fun W => by
 obtain ⟨te, pe, se⟩ := he W
 refine ⟨_, fun j ej => ps_set (by rw [F.hN j]; exact hN) (by rw [F.hN j]; exact hi) (hx.loc j) (pe j ej) (hs _) (hx.fn j), semAsgX (ks := [i]) se fun σ H μ ρ M v w ρ' M' Q h rv rσ rs q => ?_⟩
 cases h
 exact q _ μ H (Ext.refl _ _) (rσ.set rv) rs only_set
end
def spX (K : PySem.W.Frag) (T : Tb) (mg : Str -> Option Value) (n : Nat) (m : Fd) : Sp := fun vs H Q E => vs.length = n /\ ∃ μ M xs v M', RvA K μ H xs vs /\ RS K T μ H M /\ m xs M = some (v, M') /\ (∀ w μ' H', Ext μ H μ' H' -> Rv K μ' H' v w -> RS K T μ' H' M' -> Q w H') /\
 ∀ c nn ys, v = .exc c nn ys -> ∀ cls d μ' H', Ext μ H μ' H' -> Rx K mg μ' H' c nn ys cls d -> RS K T μ' H' M' -> E cls d H'
structure DdX (P : Program) (w : World) (K : PySem.W.Frag) (mg : Str -> Option Value) (base : Heap) (T : Tb) (k : Nat) (x : Str) (n : Nat) (m : Fd) : Prop where
 ex : ∃ (fa : Addr) (fd : FuncData) (ps : List Str), FnOk P w K mg base (L2N.CX P w) k fa fd ps (spX K T mg n m) /\ mg x = some (.ref fa) /\ PySem.W.keepIn K (.ref fa) = true /\ Binds K fd ps []
/-- the value, where nothing flies -/
def eNx (f : Fe) : Fe := fun ρ M => match f ρ M with
 | some (.exc _ _ _, _) => none
 | r => r
section
variable {e : Expr} {pos p : Pos} {es : List Expr} {g : Fa}
/-- a call that may raise, where it doesn't -/
theorem se_callX {F : Fam} {x : Str} {k n : Nat} {m : Fd} (D : DdX F.prog F.w F.K F.mg F.base F.T k x n m) (hk : k <= F.lv) (hg : Glb F x) (ha : SA F (e :: es) g) (hn : (e :: es).length = n := by rfl) (hs : ∀ env, starEach (e :: es) env = (false, eval e env) :: starEach es env := by intro _; rfl)
  (hpl : ∀ env, (backTo pos (starEach es env)).any (·.1) = false := by intro _; rfl) (hdb : (x == ("__debug__" : Str)) = false := by decide) : SE F (.Call (.Name x p) (e :: es) [] pos) (eNx (eA m g)) := by
 obtain ⟨⟨ta, pa, sa⟩, hlen⟩ := ha
 obtain ⟨fa, fd, ps, FN, mg, kp, bd⟩ := D.ex
 refine ⟨tCall (spX F.K F.T F.mg n m) [] (fun _ _ _ => False) ta, fun i => ?_, fun σ H μ ρ M v M' Q h rσ rs q => ?_⟩
 ·have FN' : FnOk (F.X i).prog (F.X i).w (F.X i).K (F.X i).mg (F.X i).base (L2N.CX (F.X i).prog (F.X i).w) k fa fd ps (spX F.K F.T F.mg n m) := by
   rw [F.hprog i, F.hw i, F.hK i, F.hmg i, F.hbase i]
   exact FN
  refine pe_call FN' ((F.hr i).mono hk) (hg.gl i) (by rw [F.hmg i]; exact mg) (by rw [F.hK i]; exact kp) (by rw [F.hK i]; exact bd) .nil (fun _ _ _ _ _ _ _ z => ?_) (pa i) hdb (hs _) (hpl _)
  obtain ⟨_, _, _, _, _, _, _, _, _, _, _, _, f⟩ := z
  exact f.elim
 ·unfold eNx at h
  split at h
  ·cases h
  ·rename_i hne
   unfold eA at h
   split at h
   ·rename_i _ vs M1 h1
    refine sa σ H μ ρ M _ _ _ h1 rσ rs fun w1 μ1 H1 e1 r1 s1 => ?_
    have hl := (hlen _ _ _ _ h1).trans hn
    refine ⟨by rw [List.append_nil, <- r1.length]; exact hl, μ1, M1, vs, v, M', ?_, s1, h, fun w2 μ2 H2 e2 r2 s2 => q w2 μ2 H2 (e1.trans e2) r2 s2, fun c nn ys ev => ?_⟩
    ·rw [List.append_nil]
     exact r1
    ·refine (hne c nn ys M' ?_).elim
     unfold eA
     rw [h1]
     show m vs M1 = _
     rw [h, ev]
   ·cases h
/-- a call that may raise -/
theorem sex_call {F : FamX} {x : Str} {k n : Nat} {m : Fd} (D : DdX F.prog F.w F.K F.mg F.base F.T k x n m) (hk : k <= F.lv) (hg : Glb F.toFam x) (ha : SA F.toFam (e :: es) g) (hn : (e :: es).length = n := by rfl) (hs : ∀ env, starEach (e :: es) env = (false, eval e env) :: starEach es env := by intro _; rfl)
  (hpl : ∀ env, (backTo pos (starEach es env)).any (·.1) = false := by intro _; rfl) (hdb : (x == ("__debug__" : Str)) = false := by decide) : SEX F (.Call (.Name x p) (e :: es) [] pos) (eA m g) := fun W => by
 obtain ⟨⟨ta, pa, sa⟩, hlen⟩ := ha
 obtain ⟨fa, fd, ps, FN, mg, kp, bd⟩ := D.ex
 refine ⟨tCallS (spX F.K F.T F.mg n m) (WE W) ta, fun i ei => ?_, fun σ H μ ρ M v M' Q h rσ rs q x => ?_⟩
 ·have FN' : FnOk (F.X i).prog (F.X i).w (F.X i).K (F.X i).mg (F.X i).base (L2N.CX (F.X i).prog (F.X i).w) k fa fd ps (spX F.K F.T F.mg n m) := by
   rw [F.hprog i, F.hw i, F.hK i, F.hmg i, F.hbase i]
   exact FN
  exact pe_callS FN' ((F.hr i).mono hk) (hg.gl i) (by rw [F.hmg i]; exact mg) (by rw [F.hK i]; exact kp) (by rw [F.hK i]; exact bd) (fun σ => L2N.passAt (ei ▸ F.tk i) σ) (pa i) hdb (hs _) (hpl _)
 ·unfold eA at h
  split at h
  ·rename_i _ vs M1 h1
   refine sa σ H μ ρ M _ _ _ h1 rσ rs fun w1 μ1 H1 e1 r1 s1 => ?_
   have hl := (hlen _ _ _ _ h1).trans hn
   exact ⟨by rw [<- r1.length]; exact hl, μ1, M1, vs, v, M', r1, s1, h, fun w2 μ2 H2 e2 r2 s2 => q w2 μ2 H2 (e1.trans e2) r2 s2, fun c nn ys ev cls d μ2 H2 e2 rx s2 => x c nn ys ev cls d μ2 H2 (e1.trans e2) rx s2⟩
  ·cases h
end
/-- the bodies of a def that may raise, wherever it is called -/
def famX (P : Program) (w : World) (K : PySem.W.Frag) (mg : Str -> Option Value) (base : Heap) (T : Tb) (hTw : T.w = w) (N : List Str) (qual : Str) (scope : Scope) (f : Addr) (cdv : Value) (k : Nat) : FamX where
 ι := { i : Around × List PySem.Env × Shared × Hp × XK // Room k (i.1.deeper (envOfC qual scope i.2.2.1.heap.objs.size f cdv)) }
 X := fun i => cxOf (L2N.CX P w) P w K mg base N qual scope f cdv i.1.1 i.1.2.1 i.1.2.2.1 i.1.2.2.2.1 i.1.2.2.2.2
 K := K
 mg := mg
 base := base
 prog := P
 w := w
 N := N
 sc := scope
 lv := k
 T := T
 code := some cdv
 hK := fun _ => rfl
 hmg := fun _ => rfl
 hbase := fun _ => rfl
 hprog := fun _ => rfl
 hw := fun _ => rfl
 hTw := hTw
 hN := fun _ => rfl
 hsc := fun _ => rfl
 hr := fun i => i.2
 hcalm := fun _ => rfl
 hcode := fun c h i => by cases h; rfl
 fn := true
 hfn := fun _ _ _ => rfl
 hp := fun _ => passes_of rfl
 W := fun i cls d _ H => i.1.2.2.2.2 cls d H
 tk := fun i => L2N.takes_of rfl rfl rfl rfl
section
variable {P : Program} {w : World} {K : PySem.W.Frag} {mg : Str -> Option Value} {base : Heap} {T : Tb}
theorem def_okX {x qual : Str} {st : Stmt} {f : Addr} {oc : Value} {od : Option Addr} {kV doc pm : Value} {an : Option Addr} {cdv ct : Value} {osl : Array (Option Value)} {N ps : List Str} {k : Nat} {s : Fs} (hTw : T.w = w)
  (lk : K.lookup f = some ⟨oc, od, .func (PySem.W.fnOf x qual (defArgs st) (defBody st) (defScope st) .none kV doc pm an cdv ct), osl⟩) (hcd : PySem.W.codeIn K cdv qual = true) (S : FnScope N ps (defScope st))
  (h : SSsX (famX P w K mg base T hTw N qual (defScope st) f cdv k) (defBody st) s) :
  FnOk P w K mg base (L2N.CX P w) (k + 1) f (PySem.W.fnOf x qual (defArgs st) (defBody st) (defScope st) .none kV doc pm an cdv ct) ps (spX K T mg ps.length (runD N.length s)) := by
 refine fn_of lk hcd S (fun vs H Q E q => q.1) fun A outer s0 H vs Q E hr hsp => ?_
 obtain ⟨_, μ, M, xs, v, M', rv, rs, hm, q, qx⟩ := hsp
 obtain ⟨ts, p, sem⟩ := h (fun cls d _ H => E cls d H)
 refine ⟨ts, p ⟨(A, outer, s0, H, E), hr⟩ rfl, ?_⟩
 unfold runD at hm
 split at hm
 ·cases hm
  exact sem _ H μ _ M (.rt _) _ _ _ (by assumption) (start_rel rv) rs (fun w' μ' H' e r s => q w' μ' H' e r s) fun c n ys ev cls d σ' μ' H' e _ rx s => by
   cases ev
   exact qx c n ys rfl cls d μ' H' e rx s
 ·cases hm
  exact sem _ H μ _ M .nx _ _ _ (by assumption) (start_rel rv) rs (fun σ' μ' H' e r s => q .non μ' H' e .non s) (fun _ _ _ z => nomatch z)
 ·cases hm
theorem ddx_of {x qual : Str} {st : Stmt} {f : Addr} {oc : Value} {od : Option Addr} {kV doc pm : Value} {an : Option Addr} {cdv ct : Value} {osl : Array (Option Value)} {N ps : List Str} {k : Nat} {s : Fs} (hTw : T.w = w)
  (lk : K.lookup f = some ⟨oc, od, .func (PySem.W.fnOf x qual (defArgs st) (defBody st) (defScope st) .none kV doc pm an cdv ct), osl⟩) (hcd : PySem.W.codeIn K cdv qual = true) (hk : PySem.W.keepIn K (.ref f) = true) (hg : mg x = some (.ref f)) (S : FnScope N ps (defScope st))
  (hb : ∀ kV doc pm an cd ct (us : List Value), us.length = ps.length -> bindArgs (PySem.W.fnOf x qual (defArgs st) (defBody st) (defScope st) .none kV doc pm an cd ct) ⟨us, []⟩ = pure (ps.zip us))
  (h : SSsX (famX P w K mg base T hTw N qual (defScope st) f cdv k) (defBody st) s) : DdX P w K mg base T (k + 1) x ps.length (runD N.length s) :=
 ⟨f, _, ps, def_okX hTw lk hcd S h, hg, hk, (fun_mk (st := st) lk hcd hk).binds hb⟩
end
end Sh
namespace Sh
open PySem PySem.Spec PyProof.Rows L2 NdefX GenE
open GxR (TabB TabG Tabbed)
abbrev veB : List Value := [.type "ValueError", .type "Exception", .type "BaseException", .type "object"]
/-- a class that is raised with a text -/
structure ExcM (K : PySem.W.Frag) (mg : Str -> Option Value) (c : Str) : Prop where
 ex : ∃ C : Addr, mg c = some (.ref C) /\ PySem.W.excIn K C veB "ValueError.__new__" = true /\ PySem.W.keepIn K (.ref C) = true /\ PySem.W.subIn K (.ref C) (.type "BaseException") = some true /\ PySem.W.typeIn K (.ref C) = some (.type "type")
def sRaiseM (c : Str) : Fs := fun ρ M => some (.rt (.exc c "" []), ρ, M)
/-- a class with one field, kept by its own __init__ -/
def spI (K : PySem.W.Frag) (n : Str) : Sp := fun vs H Q _ => ∃ (a C : Addr) (y : V), vs = [.ref a, y] /\ OexC K C /\ PySem.W.findIn K (.ref C) n = some none /\ H a = some (exo a C none) /\
 ∀ dx, H dx = none -> dx ≠ a -> Q .non (upd (upd H dx (exd dx [(n, y)])) a (exo a C (some dx)))
structure ExcF (P : Program) (w : World) (K : PySem.W.Frag) (mg : Str -> Option Value) (base : Heap) (k : Nat) (c n : Str) : Prop where
 ex : ∃ (C fI : Addr) (fd : FuncData) (ps : List Str), mg c = some (.ref C) /\ OexC K C /\ PySem.W.findIn K (.ref C) n = some none /\ PySem.W.findIn K (.ref C) "__init__" = some (some (.ref fI)) /\ PySem.W.typeIn K (.ref fI) = some (.type "function") /\
  FnOk P w K mg base CX0 k fI fd ps (spI K n) /\ Binds K fd ps []
def sRaiseF (c n : Str) (f : Fe) : Fs := fun ρ M => match f ρ M with
 | some (v, M1) => some (.rt (.exc c n [v]), ρ, M1)
 | none => none
section
variable {F : FamX} {e : Expr} {f : Fe} {c n m : Str} {p p2 pos pos' : Pos} {j : Nat}
theorem ssx_raiseM (hx : ExcM F.K F.mg c) (hg : Glb F.toFam c) (hdb : (c == ("__debug__" : Str)) = false := by decide) : SSX F (.Raise (some (.Call (.Name c p) [.Constant (.str m) j p2] [] pos)) none pos') (sRaiseM c) := fun W => by
 obtain ⟨C, h1, h2, h3, h4, h5⟩ := hx.ex
 refine ⟨fun _ σ H => W (.ref C) none σ H, fun i ei => ?_, fun σ H μ ρ M o ρ' M' D h rσ rs q x => ?_⟩
 ·have hk := F.hK i
  exact L2N.ps_raise (F.hcalm i) (ei ▸ F.tk i) (L2N.pmk_own PySem.F.excBase_ValueError (by rw [hk]; exact h2) (by rw [F.hmg i]; exact h1) (by rw [hk]; exact h3) (raises_own (by rw [hk]; exact h4) (by rw [hk]; exact h5)) (hg.gl i) hdb)
 ·cases h
  exact x c "" [] rfl _ _ σ μ H (Ext.refl _ _) rσ ⟨h1, rfl⟩ rs
end
section
variable {X : Cx} {e : Expr} {es : List Expr} {ta : TA} {p pos : Pos}
theorem mk_endN {pins : List (Addr × Obj)} {σ : L2.St} {H1 H2 : Hp} {Q : XK} {s1 : Shared} {hp2 : Heap} {s2 : Shared} {a C d : Addr} {fs : List (Str × V)} (T : Raises X (.ref C)) (I1 : L2.Inv X pins σ H1 s1)
  (ha : s1.heap.objs.size <= a) (k : ∀ b o, s1.heap.get? b = some o -> hp2.get? b = some o) (un : Un (frs X.stack) [] (upd H1 a (exo a C none)) H2 hp2 s2.heap) (hok : HOk X.prog X.w H2 s2.heap) (ho : s2.os = s1.os) (hb : AllBare s2.gens)
  (ea : H2 a = some (exo a C (some d))) (ed : H2 d = some (exd d fs)) (hd1 : H1 d = none) (q : Q (.ref C) (some d) (upd (del H2 a) d (.xd fs))) : L2N.MkP X pins σ Q (.ref a) s2 := by
 obtain ⟨q1, q2, q3, q4, q5⟩ := s1
 obtain ⟨r1, r2, r3, r4, r5⟩ := s2
 obtain ⟨t0, G, J, kG, ge, hoe, na⟩ := mk_end0 (d2 := r3) (t2 := r4) I1 ha k un hok ho hb ea ed hd1
 exact ⟨a, _, _, _, _, _, _, rfl, J, kG, ge, hoe, ⟨rfl, rfl, fun vs z => by cases z; rfl⟩, rfl, rfl, na, rfl, hb, T, q⟩
theorem pmk_oexN {CX : CXT} {x : Str} {C fI : Addr} {k : Nat} {fd : FuncData} {ps : List Str} {sp : Sp} (T : OexC X.K C) (iC : PySem.W.findIn X.K (.ref C) "__init__" = some (some (.ref fI))) (tI : PySem.W.typeIn X.K (.ref fI) = some (.type "function"))
  (F1 : FnOk X.prog X.w X.K X.mg X.base CX k fI fd ps sp) (hr : Room (k + 1) X.A) (hb : Binds X.K fd ps []) (hx : Passes CX X (fun _ _ _ => False)) (hg : Gl X x) (hm : X.mg x = some (.ref C)) (ha : PA X (e :: es) ta)
  (hdb : (x == ("__debug__" : Str)) = false := by decide) (he : starEach (e :: es) X.env = (false, eval e X.env) :: starEach es X.env := by rfl) (hpl : (backTo pos (starEach es X.env)).any (·.1) = false := by rfl) :
  L2N.PMk X (.Call (.Name x p) (e :: es) [] pos) (tMkO C sp [] ta) := by
 intro pins s σ H Q I h
 obtain ⟨nm, qn, N, bs, bm, sn, sub, ab, col, dd, k0, k1, k2, k3, k5, lkC, tl⟩ := T.cls
 refine wpAny_Call_Name_kw (ld_glob I hg hm ?_ hdb)
 refine PySem.W.callWith_K (h₀ := X.base) I.ok.mod.kin T.kC (thn (ha.run pos pins s σ H _ I h) ?_) he hpl
 rintro us ⟨hp, g, dr, tk, os⟩ ⟨vs, H1, I1, r1, hz, q1⟩
 refine ⟨I1.kIn, ?_⟩
 show wpAny _ _ (call (.ref C) us) _ _ _
 have hn := I1.hok.fresh (Nat.le_succ hp.objs.size)
 have hq := q1 (hp.objs.size + 1) hn
 rw [List.append_nil] at hq
 have kk : ∀ b o, hp.get? b = some o -> ((hp.push (PySem.W.kdv_tup us)).push (PySem.HandSPX.excO C hp.objs.size)).get? b = some o :=
  fun b o z => Heap.get?_push_of_some _ (Heap.get?_push_of_some _ z)
 have I2 := I1.laid (t' := tk) (a := hp.objs.size + 1) (o := exo (hp.objs.size + 1) C none) kk (Nat.le_succ _) (exo_ok (by heap_get))
 have r2 : Vals (.ref (hp.objs.size + 1) :: vs) (.ref (hp.objs.size + 1) :: us) := .cons rfl r1
 have hl : (Value.ref (hp.objs.size + 1) :: us).length = ps.length := r2.length.symm.trans (F1.len _ _ _ _ hq)
 have hus : us.length <= sizeLine := by
  have z := Paired.length r1
  rw [sizeLine_eq]
  omega
 have b := hb _ (Value.ref (hp.objs.size + 1) :: us) I2.kIn (by rw [List.append_nil]; exact hl)
 rw [List.append_nil] at b
 have run := F1.run _ X.stack _ _ _ _ _ _ (fun _ _ _ => False) (hr.make C us []) (I2.env0.make C us []) b r2 hq
 refine wpAny_call (PySem.HandSPX.call_own PySem.F.excBase_ValueError (fun Y => PySem.HandSPX.refsVE_contains Y bm tl) (I1.kIn _ _ lkC) (PySem.W.looks_findIn I1.kIn iC) (fun self => PySem.W.bind_fn I1.kIn self tI) hus (codeAny_mono run ?_))
 rintro (er | fl) s' hr'
 ·exact hx pins σ _ _ er s' I2 hr'
 ·cases fl with
  | ret u =>
   obtain ⟨v, H2, os2, bare2, un2, hok2, rv, ev, d, fs, ea, ed, hd1, q2⟩ := hr'
   subst ev
   exact ⟨rv, mk_endN (raises_own T.exC T.tyC) I1 (Nat.le_succ _) kk un2 hok2 os2 bare2 ea ed hd1 q2⟩
  | _ => exact False.elim hr'
end
section
variable {F : FamX} {e : Expr} {f : Fe} {c n : Str} {k : Nat} {p pos pos' : Pos}
theorem ssx_raiseF (hx : ExcF F.prog F.w F.K F.mg F.base k c n) (hlv : k + 1 <= F.lv) (hg : Glb F.toFam c) (ha : SE F.toFam e f) (hs : ∀ env, starEach [e] env = (false, eval e env) :: starEach [] env := by intro _; rfl) (hdb : (c == ("__debug__" : Str)) = false := by decide) :
  SSX F (.Raise (some (.Call (.Name c p) [e] [] pos)) none pos') (sRaiseF c n f) := fun W => by
 obtain ⟨C, fI, fd, ps, h1, T, h3, h4, h5, FN, bd⟩ := hx.ex
 obtain ⟨te, pe, se⟩ := ha
 refine ⟨fun _ σ H => tMkO C (spI F.K n) [] (tCons te tNil) σ H fun cls d H' => W cls d σ H', fun i ei => ?_, fun σ H μ ρ M o ρ' M' D h rσ rs q x => ?_⟩
 ·have hk := F.hK i
  refine L2N.ps_raise (F.hcalm i) (ei ▸ F.tk i) (pmk_oexN (by rw [hk]; exact T) (by rw [hk]; exact h4) (by rw [hk]; exact h5) (F1 := ?_) ((F.hr i).mono hlv) (by rw [hk]; exact bd) pass0 (hg.gl i) (by rw [F.hmg i]; exact h1) (pa_cons (pe i) pa_nil (hs _)) hdb (hs _))
  rw [F.hprog i, F.hw i, hk, F.hmg i, F.hbase i]
  exact FN
 ·unfold sRaiseF at h
  split at h
  ·rename_i v M1 hf
   cases h
   refine se σ H μ ρ M _ _ _ hf rσ rs fun w1 μ1 H1 e1 r1 s1 => ?_
   refine ⟨by simp, fun a hna => ⟨a, C, w1, rfl, T, h3, upd_same, fun dx hnd hda => ⟨rfl, dx, [(n, w1)], upd_same, ?_, ?_, ?_⟩⟩⟩
   ·rw [upd_ne hda, upd_same]
   ·rw [upd_ne hda] at hnd
    exact hnd
   ·rw [upd_ne hda] at hnd
    have eH : upd (del (upd (upd (upd H1 a (exo a C none)) dx (exd dx [(n, w1)])) a (exo a C (some dx))) a) dx (.xd [(n, w1)]) = upd H1 dx (.xd [(n, w1)]) := by
     funext b
     by_cases hb : b = dx
     ·rw [hb, upd_same, upd_same]
     ·rw [upd_ne hb, upd_ne hb]
      by_cases hba : b = a
      ·rw [hba, del_same, hna]
      ·rw [del_ne hba, upd_ne hba, upd_ne hb, upd_ne hba]
    rw [eH]
    have gr := s1.new (u := .xd [(n, w1)]) hnd
    have e2 : Ext μ1 H1 μ1 (upd H1 dx (.xd [(n, w1)])) := gr.ext
    exact x c n [v] rfl _ _ σ μ1 _ (e1.trans e2) ((rσ.ext e1).ext e2) ⟨h1, dx, w1, rfl, upd_same, r1.ext e2⟩ (s1.grow gr)
  ·cases h
end
/-- the own __init__: self.n = n -/
theorem excF_of {P : Program} {w : World} {K : PySem.W.Frag} {mg : Str -> Option Value} {base : Heap} {C : Addr} {c n x qual s1 : Str} {fI : Addr} {oc : Value} {od : Option Addr} {kV doc pm : Value} {an : Option Addr} {cdv ct : Value} {osl : Array (Option Value)} {k : Nat} {args : Arguments} {sc : Scope} {p1 p2 p3 p4 : Pos}
  (h1 : mg c = some (.ref C)) (T : OexC K C) (h3 : PySem.W.findIn K (.ref C) n = some none) (h4 : PySem.W.findIn K (.ref C) "__init__" = some (some (.ref fI))) (h5 : PySem.W.typeIn K (.ref fI) = some (.type "function"))
  (lk : K.lookup fI = some ⟨oc, od, .func (PySem.W.fnOf x qual args [.Assign [.Attribute (.Name "self" p1) n p2] (.Name n p3) p4] sc .none kV doc pm an cdv ct), osl⟩) (hcd : PySem.W.codeIn K cdv qual = true) (S : FnScope ["self", n] ["self", n] sc)
  (hv0 : sc.names.lookup ("self" : Str) = some NameKind.local) (hv1 : sc.names.lookup n = some NameKind.local) (hn1 : (n == ("__debug__" : Str)) = false) (hn2 : (n == ("__classdict__" : Str)) = false)
  (hs : ∀ env, swapsWith (.Name n p3) (some (.Attribute (.Name "self" p1) n p2)) p4.line env = pure false)
  (bd : Binds K (PySem.W.fnOf x qual args [.Assign [.Attribute (.Name "self" p1) n p2] (.Name n p3) p4] sc .none kV doc pm an cdv ct) ["self", n] []) : ExcF P w K mg base (k + 1) c n := by
 refine ⟨C, fI, _, _, h1, T, h3, h4, h5, fn_of lk hcd S (fun vs H Q E q => ?_) (fun A outer s H vs Q E hr hsp => ?_), bd⟩
 ·obtain ⟨a, C', y, rfl, _⟩ := q
  rfl
 ·obtain ⟨a, C', y, rfl, T', hno, ha, hq⟩ := hsp
  refine ⟨_, pss_one (ps_ost (pe_var (i := 0) rfl (.inl hv0)) (pe_var (i := 1) rfl (.inl hv1) hn1 hn2) (hs _)), ?_⟩
  exact ⟨y, rfl, .ref a, rfl, a, C', rfl, T', hno, .inl ⟨ha, hq⟩⟩
/-- OexC, looked at -/
theorem oexB_ok {K : PySem.W.Frag} {C : Addr} (h : oexB K C = true) : OexC K C := by
 unfold oexB at h
 obtain ⟨h0, h⟩ := Bool.and_eq_true_iff.mp h
 obtain ⟨g1, h⟩ := Bool.and_eq_true_iff.mp h
 obtain ⟨g2, h⟩ := Bool.and_eq_true_iff.mp h
 obtain ⟨g3, g4⟩ := Bool.and_eq_true_iff.mp h
 refine ⟨?_, of_decide_eq_true g1, of_decide_eq_true g2, of_decide_eq_true g3, g4⟩
 split at h0
 ·rename_i dd cd sl lk
  split at h0
  ·rename_i C' bm k0 k1 k2 k3 n k5 hm hs
   obtain ⟨a1, h0⟩ := Bool.and_eq_true_iff.mp h0
   obtain ⟨a2, h0⟩ := Bool.and_eq_true_iff.mp h0
   obtain ⟨a3, h0⟩ := Bool.and_eq_true_iff.mp h0
   obtain ⟨a4, a5⟩ := Bool.and_eq_true_iff.mp h0
   have a1 := of_decide_eq_true a1
   have a2 := of_decide_eq_true a2
   subst a1 a2
   obtain ⟨nm, bs, mro, ns, qn, hd, sn, sub, ab, col, hdel⟩ := cd
   obtain ⟨l⟩ := sl
   simp only at hm hs a3 a4
   subst hm hs a4
   have a3 : hdel = false := by simpa using a3
   subst a3
   exact ⟨nm, qn, ns, bs, bm, sn, sub, ab, col, dd, k0, k1, k2, k3, k5, lk, a5⟩
  ·cases h0
 ·cases h0
end Sh
namespace Sh
open PySem PySem.Spec PyProof.Rows L2 NdefX GenE
open GxR (TabB TabG Tabbed)
/-- the contexts of a try's body -/
def FamX.tr (F : FamX) : FamX where
 ι := { x : F.ι × List (Addr × Obj) × (Value -> Shared -> Prop) × WX // L2N.Takes ((F.X x.1).tr x.2.1 x.2.2.1) x.2.2.2 /\ PassesOwn (model (F.X x.1).prog (F.X x.1).w) (F.X x.1).A (F.X x.1).env x.2.2.1 }
 X := fun x => (F.X x.1.1).tr x.1.2.1 x.1.2.2.1
 K := F.K
 mg := F.mg
 base := F.base
 prog := F.prog
 w := F.w
 N := F.N
 sc := F.sc
 lv := F.lv
 T := F.T
 code := F.code
 hK := fun x => F.hK x.1.1
 hmg := fun x => F.hmg x.1.1
 hbase := fun x => F.hbase x.1.1
 hprog := fun x => F.hprog x.1.1
 hw := fun x => F.hw x.1.1
 hTw := F.hTw
 hN := fun x => F.hN x.1.1
 hsc := fun x => F.hsc x.1.1
 hr := fun x => F.hr x.1.1
 hcalm := fun x => F.hcalm x.1.1
 hcode := fun c h x => F.hcode c h x.1.1
 fn := F.fn
 hfn := fun h x => F.hfn h x.1.1
 hp := fun x => x.2.2
 W := fun x => x.1.2.2.2
 tk := fun x => x.2.1
/-- a def's own contexts -/
structure Top (F : FamX) : Prop where
 stk : ∀ i, (F.X i).stack = (F.X i).env :: (F.X i).outer
 fr : ∀ i, (F.X i).env.frame = some (F.X i).env.locals
abbrev Hd := Str -> Str -> List Vl -> Fs
/-- body; where an exception flies that the clause catches, h -/
def sTry (s : Fs) (cs : Str -> Option Bool) (h : Hd) : Fs := fun ρ M => match s ρ M with
 | some (.rt (.exc c n xs), ρ1, M1) => match cs c with
  | some true => h c n xs ρ1 M1
  | some false => some (.rt (.exc c n xs), ρ1, M1)
  | none => none
 | r => r
/-- a clause's suite, the exception named by slot i -/
def HdS (F : FamX) (i : Nat) (suite : List Stmt) (h : Hd) : Prop := ∃ ts : Addr -> Value -> Option Addr -> TS,
 (∀ j a oe cls d pn, L2N.Zn cls d oe -> (∃ vs, oe.data = .fields vs) -> PSs ((F.X j).suite a ((a, oe) :: pn)) suite (ts a cls d)) /\
 ∀ (a : Addr) (cls : Value) (d : Option Addr) (σ : L2.St) (H : Hp) (μ : List Addr) (ρ : Env) (M : Mem) (c n : Str) (xs : List Vl) (o : Out) (ρ' : Env) (M' : Mem) (D : Ends), h c n xs ρ M = some (o, ρ', M') -> Rσ F.K μ H ρ σ -> RS F.K F.T μ H M -> Rx F.K F.mg μ H c n xs cls d -> H a = none ->
  EndOk F.K F.T μ H D o ρ' M' -> ts a cls d ⟨fun σ' H' => D.nx (σ'.set i none) H', D.rt, fun σ' H' => D.bk (σ'.set i none) H', fun σ' H' => D.ct (σ'.set i none) H'⟩ (σ.set i (some (.ref a))) H
/-- which classes the clause catches -/
def Cat (K : PySem.W.Frag) (mg : Str -> Option Value) (x : Str) (cs : Str -> Option Bool) : Prop := ∃ cv, mg x = some cv /\ ∀ c b, cs c = some b -> ∀ cls, mg c = some cls -> PySem.W.exmOne K cls cv = some b
section
variable {F : FamX} {body suite : List Stmt} {b₀ : Stmt} {s : Fs} {x n : Str} {np pos pos' : Pos} {cs : Str -> Option Bool} {h : Hd}
theorem semTry {W : WX} {tb : WX -> TS} {Wh : Ends -> WX} (hs : ∀ W', SemSX F.K F.T F.mg W' (tb W') s)
  (hc : ∀ (a : Addr) (cls : Value) (d : Option Addr) (σ : L2.St) (H : Hp) (μ : List Addr) (ρ : Env) (M : Mem) (c n : Str) (xs : List Vl) (o : Out) (ρ' : Env) (M' : Mem) (D : Ends), cs c = some true -> h c n xs ρ M = some (o, ρ', M') -> Rσ F.K μ H ρ σ -> RS F.K F.T μ H M -> Rx F.K F.mg μ H c n xs cls d -> EndOk F.K F.T μ H D o ρ' M' -> Wh D cls d σ H)
  (hn : ∀ (cls : Value) (d : Option Addr) (σ : L2.St) (H : Hp) (c : Str) (D : Ends), cs c = some false -> F.mg c = some cls -> W cls d σ H -> Wh D cls d σ H) : SemSX F.K F.T F.mg W (fun D σ H => tb (Wh D) D σ H) (sTry s cs h) := by
 intro σ H μ ρ M o ρ' M' D e rσ rs q x
 unfold sTry at e
 split at e
 ·rename_i c n xs ρ1 M1 h1
  split at e
  ·rename_i hcs
   exact hs _ σ H μ ρ M _ _ _ D h1 rσ rs (fun w μ' H' _ r _ => nomatch r) fun c' n' xs' ec cls d σ' μ' H' e1 r1 rx s1 => by
    cases ec
    exact hc 0 cls d σ' H' μ' ρ1 M1 c n xs o ρ' M' D hcs e r1 s1 rx (q.ext e1)
  ·rename_i hcs
   cases e
   exact hs _ σ H μ ρ M _ _ _ D h1 rσ rs (fun w μ' H' _ r _ => nomatch r) fun c' n' xs' ec cls d σ' μ' H' e1 r1 rx s1 => by
    cases ec
    exact hn cls d σ' H' c D hcs rx.1 (x c n xs rfl cls d σ' μ' H' e1 r1 rx s1)
  ·cases e
 ·rename_i hne
  exact hs _ σ H μ ρ M _ _ _ D e rσ rs q fun c' n' xs' ec => by
   subst ec
   exact (hne c' n' xs' _ _ e).elim
end
end Sh
namespace Sh
open PySem PySem.Spec PyProof.Rows L2 NdefX GenE
open GxR (TabB TabG Tabbed)
/-- what is looked at of a class whose instances are asked by isinstance -/
structure ExcI (K : PySem.W.Frag) (D : Addr) : Prop where
 hcl : (PySem.W.clsIn K D).isSome = true
 hga : PySem.W.findIn K (.ref D) "__getattribute__" = some (some (.builtin "BaseException.__getattribute__"))
 hgt : PySem.W.findIn K (.ref D) "__getattr__" = some none
 hsub : PySem.W.subIn K (.ref D) (.type "BaseException") = some true
 ha : PySem.W.findIn K (.ref D) "__class__" = some (some (.builtin "object.__class__"))
 hn : PySem.W.specialIn K (.builtin "object.__class__") "__get__" = some (some (.builtin "getset_descriptor.__get__"))
 htk : PySem.W.takesIn K (.builtin "object.__class__") = some true
 hm : PySem.W.mroIn K D (.type "object") = some true
 hd : PySem.W.hasDictIn K D = true
def rIsX (K : PySem.W.Frag) (D a : Addr) (d : Option Addr) : List V -> Hp -> VK -> Prop := fun xs H Q => ∃ (c : V) (cv : Value) (b : Bool), xs = [.ref a, c] /\ (∀ u, RelV c u -> u = cv) /\ PySem.W.kitOne K (.ref D) cv = some b /\
 (∀ dx, d = some dx -> ∃ fs, H dx = some (.xd fs)) /\ Q (.bl b) H
theorem call_isX {X : Cx} {a D : Addr} {d : Option Addr} {oe : Obj} {pn : List (Addr × Obj)} (C : ExcI X.K D) (hz : Zc (.ref D) d oe) (hf : ∃ vs, oe.data = .fields vs) : CallR (X.suite a ((a, oe) :: pn)) (.builtin "isinstance") (rIsX X.K D a d) := by
 rintro pins s σ H xs us Q I r ⟨c, cv, b, rfl, hcv, e, hd, q⟩
 cases r with
 | cons rx r1 =>
  cases r1 with
  | cons rt r2 =>
   cases r2
   cases rx
   have ec := hcv _ rt
   subst ec
   obtain ⟨hget, _⟩ := I.pin (a, oe) (List.mem_append.mpr (.inl List.mem_cons_self))
   obtain ⟨vs, hv⟩ := hf
   obtain ⟨od, J⟩ : ∃ od, PySem.W.InstAt s.heap a oe D od := by
    cases d with
    | none => exact ⟨none, hget, hz.1, by unfold PySem.W.notCls; rw [hv] <;> rfl, by rw [hz.2]; trivial⟩
    | some dx =>
     obtain ⟨fs, hx⟩ := hd dx rfl
     have hk : ObjOk X.prog X.w H s.heap dx (.xd fs) := I.hok dx _ hx
     obtain ⟨mA, ⟨o, es, ep, ho, _⟩, _⟩ := hk
     exact ⟨some o, hget, hz.1, by unfold PySem.W.notCls; rw [hv] <;> rfl, by rw [hz.2]; exact ho⟩
   exact PySem.W.kia_one (PySem.W.kitx_exc C.hcl C.hga C.hgt C.hsub C.ha C.hn C.htk C.hm) I.kIn J e (fun z => nomatch z) (fun tk => ⟨.bl b, H, I.kept (t' := tk) (fun _ _ z => z), rfl, q⟩)
/-- the classes' names, their values -/
def ClsV (mg : Str -> Option Value) (c : Str) (cv : Value) : Prop := (∃ C, cv = .ref C /\ mg c = some cv) \/ (∃ T, cv = .type T /\ mg c = none /\ bootBuiltins c = some cv /\ c ≠ "__name__")
/-- isinstance(e, c), for each of the names -/
inductive KEx (x0 : Str) : List Expr -> List Str -> Prop
 | nil : KEx x0 [] []
 | cons {p1 p2 p3 p4 : Pos} {c : Str} {es : List Expr} {ns : List Str} : KEx x0 es ns -> KEx x0 (.Call (.Name "isinstance" p1) [.Name x0 p2, .Name c p3] [] p4 :: es) (c :: ns)
abbrev KBs (K : PySem.W.Frag) (mg : Str -> Option Value) (D : Addr) : List Str -> List Bool -> Prop := Paired fun c b => ∃ cv, ClsV mg c cv /\ PySem.W.kitOne K (.ref D) cv = some b
theorem pa_kinds {X : Cx} {a D : Addr} {d : Option Addr} {oe : Obj} {pn : List (Addr × Obj)} {x0 : Str} {i0 : Nat} (C : ExcI X.K D) (hz : Zc (.ref D) d oe) (hf : ∃ vs, oe.data = .fields vs) (hN : X.N[i0]? = some x0) (hv : Vis X.env.scope x0) (hd1 : (x0 == ("__debug__" : Str)) = false) (hd2 : (x0 == ("__classdict__" : Str)) = false)
  (gi : Gl X "isinstance") (mi : X.mg "isinstance" = none) : ∀ {es : List Expr} {ns : List Str} {bs : List Bool}, KEx x0 es ns -> (∀ c ∈ ns, Gl X c /\ (c == ("__debug__" : Str)) = false) -> KBs X.K X.mg D ns bs ->
   ∃ t, PA (X.suite a ((a, oe) :: pn)) es t /\ ∀ (σ : L2.St) (H : Hp) (Q : List V -> Hp -> Prop), σ[i0]? = some (some (.ref a)) -> (∀ dx, d = some dx -> ∃ fs, H dx = some (.xd fs)) -> Q (bs.map .bl) H -> t σ H Q
 | _, _, _, .nil, _, .nil => ⟨_, pa_nil, fun σ H Q _ _ q => q⟩
 | _, _, _, @KEx.cons _ p1 p2 p3 p4 c es ns h, hg, .cons (b := b) r rs => by
  obtain ⟨t, pt, ht⟩ := pa_kinds C hz hf hN hv hd1 hd2 gi mi h (fun c' hc => hg c' (List.mem_cons_of_mem _ hc)) rs
  obtain ⟨cv, hcv, hb⟩ := r
  obtain ⟨g1, g2⟩ := hg c List.mem_cons_self
  obtain ⟨v, pc, hrel⟩ : ∃ v, PE (X.suite a ((a, oe) :: pn)) (.Name c p3) (tC v) /\ ∀ u, RelV v u -> u = cv := by
   rcases hcv with ⟨C', rfl, hm⟩ | ⟨T, rfl, hm, hbt, hnn⟩
   ·exact ⟨.ref C', pe_glob (X := X.suite a ((a, oe) :: pn)) g1 hm rfl g2, fun u r => r⟩
   ·exact ⟨.ty T, pe_bltn (X := X.suite a ((a, oe) :: pn)) g1 hm hbt rfl hnn g2, fun u r => r⟩
  refine ⟨_, pa_cons (pe_callB (X := X.suite a ((a, oe) :: pn)) (call_isX C hz hf) gi mi (by decide +kernel) (pa_cons (pe_var (X := X.suite a ((a, oe) :: pn)) hN hv hd1 hd2) (pa_cons pc pa_nil))) pt, fun σ H Q hs hd q => ?_⟩
  exact ⟨.ref a, hs, v, cv, b, rfl, hrel, hb, hd, ht σ H _ hs hd q⟩
/-- the body of such a def: a list, twice with more, at last told -/
structure KBody (x0 y : Str) (body : List Stmt) (n1 n2 n3 : List Str) : Prop where
 ex : ∃ (e1 e2 e3 : List Expr) (p1 p2 p3 p4 p5 p6 p7 p8 p9 p10 p11 p12 : Pos), body = [.Assign [.Name y p1] (.List e1 p2) p3, .Assign [.Name y p4] (.BinOp (.Name y p5) .Add (.List e2 p6) p7) p8, .Return (some (.BinOp (.Name y p9) .Add (.List e3 p10) p11)) p12] /\
  KEx x0 e1 n1 /\ KEx x0 e2 n2 /\ KEx x0 e3 n3
def exH (H H2 : Hp) : Prop := ∀ b o, H b = some o -> H2 b = some o
theorem exH_upd {H : Hp} {p : Addr} {o : HO} (h : H p = none) : exH H (upd H p o) := fun b u e => by rw [upd_ne (ne_of_none e h)]; exact e
theorem pss_kinds {X : Cx} {a D : Addr} {d : Option Addr} {oe : Obj} {pn : List (Addr × Obj)} {x0 y : Str} {body : List Stmt} {n1 n2 n3 : List Str} {b1 b2 b3 : List Bool} (C : ExcI X.K D) (hz : Zc (.ref D) d oe) (hf : ∃ vs, oe.data = .fields vs) (hN : X.N = [x0, y]) (nd : X.N.Nodup)
  (hv : X.env.scope.names.lookup x0 = some NameKind.local) (hvy : X.env.scope.names.lookup y = some NameKind.local) (hd : ∀ z ∈ [x0, y], (z == ("__debug__" : Str)) = false /\ (z == ("__classdict__" : Str)) = false)
  (gi : Gl X "isinstance") (mi : X.mg "isinstance" = none) (hg : ∀ c ∈ n1 ++ n2 ++ n3, Gl X c /\ (c == ("__debug__" : Str)) = false) (B : KBody x0 y body n1 n2 n3) (k1 : KBs X.K X.mg D n1 b1) (k2 : KBs X.K X.mg D n2 b2) (k3 : KBs X.K X.mg D n3 b3) (hl : b1.length + b2.length + b3.length <= 100) :
  ∃ t, PSs (X.suite a ((a, oe) :: pn)) body t /\ ∀ (D' : Ends) (σ : L2.St) (H : Hp), σ = [some (.ref a), none] -> (∀ dx, d = some dx -> ∃ fs, H dx = some (.xd fs)) -> (∀ p H2, H p = none -> exH H H2 -> H2 p = some (.lst ((b1 ++ b2 ++ b3).map .bl)) -> D'.rt (.ref p) H2) -> t D' σ H := by
 obtain ⟨e1, e2, e3, p1, p2, p3, p4, p5, p6, p7, p8, p9, p10, p11, p12, rfl, x1, x2, x3⟩ := B.ex
 have h0 : X.N[0]? = some x0 := by rw [hN]; rfl
 have h1 : X.N[1]? = some y := by rw [hN]; rfl
 obtain ⟨hd0, hd1⟩ := hd x0 (by simp)
 obtain ⟨hd2, hd3⟩ := hd y (by simp)
 obtain ⟨t1, a1, q1⟩ := pa_kinds (pn := pn) C hz hf h0 (.inl hv) hd0 hd1 gi mi x1 (fun c hc => hg c (by simp [hc])) k1
 obtain ⟨t2, a2, q2⟩ := pa_kinds (pn := pn) C hz hf h0 (.inl hv) hd0 hd1 gi mi x2 (fun c hc => hg c (by simp [hc])) k2
 obtain ⟨t3, a3, q3⟩ := pa_kinds (pn := pn) C hz hf h0 (.inl hv) hd0 hd1 gi mi x3 (fun c hc => hg c (by simp [hc])) k3
 have vy : PE (X.suite a ((a, oe) :: pn)) (.Name y p5) (tVar 1) := pe_var (X := X.suite a ((a, oe) :: pn)) h1 (.inl hvy) hd2 hd3
 have vy' : PE (X.suite a ((a, oe) :: pn)) (.Name y p9) (tVar 1) := pe_var (X := X.suite a ((a, oe) :: pn)) h1 (.inl hvy) hd2 hd3
 refine ⟨_, pss_cons (ps_set (X := X.suite a ((a, oe) :: pn)) nd h1 (.inl hvy) (pe_lst a1) (by rfl) (.inr hvy)) (pss_cons (ps_set (X := X.suite a ((a, oe) :: pn)) nd h1 (.inl hvy) (pe_op op_cat vy (pe_lst a2)) (by rfl) (.inr hvy)) (pss_one (ps_ret (pe_op op_cat vy' (pe_lst a3))))), fun D' σ H es hx q => ?_⟩
 subst es
 have hll : ∀ n : Nat, n <= 100 -> n <= sizeLine := fun n hn => le_line (by omega)
 have hxx : ∀ H2, exH H H2 -> ∀ dx, d = some dx -> ∃ fs, H2 dx = some (.xd fs) := fun H2 e dx z => by
  obtain ⟨fs, h⟩ := hx dx z
  exact ⟨fs, e _ _ h⟩
 refine q1 _ H _ rfl hx ⟨by rw [List.length_map]; exact hll _ (by omega), fun r1 n1 => ?_⟩
 have z1 := exH_upd (o := .lst (b1.map .bl)) n1
 refine ⟨.ref r1, rfl, q2 _ _ _ rfl (hxx _ z1) ⟨by rw [List.length_map]; exact hll _ (by omega), fun r2 n2 => ?_⟩⟩
 have z2 := exH_upd (o := .lst (b2.map .bl)) n2
 refine ⟨r1, r2, _, _, rfl, rfl, by rw [upd_ne (ne_of_none upd_same n2), upd_same], upd_same, by rw [List.length_map, List.length_map]; exact hll _ (by omega), fun r3 n3 => ?_⟩
 have z3 := exH_upd (o := .lst (b1.map .bl ++ b2.map .bl)) n3
 have w3 : exH H _ := fun b o e => z3 b o (z2 b o (z1 b o e))
 refine ⟨.ref r3, rfl, q3 _ _ _ rfl (hxx _ w3) ⟨by rw [List.length_map]; exact hll _ (by omega), fun r4 n4 => ?_⟩⟩
 have z4 := exH_upd (o := .lst (b3.map .bl)) n4
 refine ⟨r3, r4, _, _, rfl, rfl, by rw [upd_ne (ne_of_none upd_same n4), upd_same], upd_same, by rw [List.length_append, List.length_map, List.length_map, List.length_map]; exact hll _ (by omega), fun r5 n5 => ?_⟩
 have z5 := exH_upd (o := .lst (b1.map .bl ++ b2.map .bl ++ b3.map .bl)) n5
 have w5 : exH H _ := fun b o e => z5 b o (z4 b o (w3 b o e))
 refine q r5 _ ?_ w5 (by rw [upd_same, List.map_append, List.map_append])
 cases e : H r5 with
 | none => rfl
 | some o =>
  have := z4 _ _ (w3 _ _ e)
  rw [n5] at this
  cases this
end Sh
namespace Sh
open PySem PySem.Spec PyProof.Rows L2 NdefX GenE
open GxR (TabB TabG Tabbed)
section
variable {X : Cx} {a f D : Addr} {d : Option Addr} {oe : Obj} {pn pins : List (Addr × Obj)} {σ : L2.St} {H : Hp} {s : Shared} {Q : VK} {name qual x0 y : Str} {params : Arguments} {body : List Stmt} {scope : Scope} {kV doc pm cdv ct oc : Value} {an od : Option Addr} {osl : Array (Option Value)} {k : Nat} {n1 n2 n3 : List Str} {b1 b2 b3 : List Bool}
theorem kinds_run (C : ExcI X.K D) (hz : L2N.Zn (.ref D) d oe) (hf : ∃ vs, oe.data = .fields vs) (hr : Room (k + 1) X.A) (lk : X.K.lookup f = some ⟨oc, od, .func (PySem.W.fnOf name qual params body scope .none kV doc pm an cdv ct), osl⟩) (hcd : PySem.W.codeIn X.K cdv qual = true) (S : FnScope [x0, y] [x0] scope)
  (hb : bindArgs (PySem.W.fnOf name qual params body scope .none kV doc pm an cdv ct) ⟨[.ref a], []⟩ = pure [(x0, .ref a)])
  (hv : scope.names.lookup x0 = some NameKind.local) (hvy : scope.names.lookup y = some NameKind.local) (hd : ∀ z ∈ [x0, y], (z == ("__debug__" : Str)) = false /\ (z == ("__classdict__" : Str)) = false)
  (gi : scope.names.lookup ("isinstance" : Str) = some .globalImplicit) (mi : X.mg "isinstance" = none) (hg : ∀ c ∈ n1 ++ n2 ++ n3, scope.names.lookup c = some .globalImplicit /\ (c == ("__debug__" : Str)) = false) (B : KBody x0 y body n1 n2 n3)
  (k1 : KBs X.K X.mg D n1 b1) (k2 : KBs X.K X.mg D n2 b2) (k3 : KBs X.K X.mg D n3 b3) (hl : b1.length + b2.length + b3.length <= 100)
  (hdx : ∀ dx, d = some dx -> ∃ fs, H dx = some (.xd fs)) (I : L2.Inv (X.suite a ((a, oe) :: pn)) pins σ H s) (q : ∀ p H2, H p = none -> exH H H2 -> H2 p = some (.lst ((b1 ++ b2 ++ b3).map .bl)) -> Q (.ref p) H2) :
  wpAny (model X.prog X.w) (X.suite a ((a, oe) :: pn)).A (call (.ref f) [.ref a]) (EP (X.suite a ((a, oe) :: pn)) pins σ Q) (X.suite a ((a, oe) :: pn)).xe s := by
 obtain ⟨vs, hvs⟩ := hf
 have P1 := I.pin (a, oe) (List.mem_append_left _ List.mem_cons_self)
 have hpin : L2H.PinOk (X.suite a ((a, oe) :: pn)).stack H s (a, oe) := ⟨P1.1, P1.2.1, fun hm => (List.mem_cons.mp (I.stkSub a hm)).elim P1.2.2.1 P1.2.2.2.1, P1.2.2.2.2⟩
 have lim : s.heap.NoLimit := I.nolimit
 have hkind : ∀ z ∈ [(x0, (Value.ref a : Value))], scope.names.lookup z.1 = some .local \/ (scope.names.lookup z.1 = some .cell /\ ((cellsFrom (s.heap.objs.size + 1) scope.names []).lookup z.1).isSome = true) := fun z hz => by
  obtain rfl := List.mem_singleton.mp hz
  exact .inl hv
 have run : codeAny (model X.prog X.w) (X.suite a ((a, oe) :: pn)).A (.call (.ref f) ⟨[.ref a], []⟩) (CR CX0 (X.suite a ((a, oe) :: pn)).stack X.prog X.w H s Q (fun _ _ _ => False)) s := by
  refine codeAny_call_function (show _ from (L2H.roomH_of hr).depth) (I.kIn _ _ lk) rfl S.co S.gen rfl (PySem.W.codeRec_of I.kIn hcd) (BindsTo.of_eq hb _ _ _ _ ?_)
  refine wpAny_newFunctionEnv_cells S.kind hkind fun env he s1 x => ?_
  subst he
  refine ⟨lim.keeps x.toInCall.keep, codeAny_func ?_⟩
  have J := L2H.inv_startH (CX := CX0) (P := X.prog) (w := X.w) (K := X.K) (mg := X.mg) (base := X.base) (qual := qual) (f := f) (cd := cdv) (E := fun _ _ _ => False) S hpin I.env0 (vs := [.ref a]) (us := [.ref a]) rfl (.cons rfl .nil) x
  obtain ⟨t, pt, ht⟩ := pss_kinds (X := cxOf CX0 X.prog X.w X.K X.mg X.base [x0, y] qual scope f cdv (X.suite a ((a, oe) :: pn)).A (X.suite a ((a, oe) :: pn)).stack s H (fun _ _ _ => False)) (pn := []) (d := d) (oe := oe) (a := a) (D := D) C hz.zc ⟨vs, hvs⟩ rfl S.nd hv hvy hd gi mi hg B k1 k2 k3 hl
  have pz : PSs (L2H.cxH CX0 X.prog X.w X.K X.mg X.base [x0, y] qual scope f cdv (X.suite a ((a, oe) :: pn)).A (X.suite a ((a, oe) :: pn)).stack s H (fun _ _ _ => False) (a, oe)).nox body t := pt
  refine wpAny_mono (pz.nox.run [] s1 _ H ⟨fun _ H' => Q .non H', Q, fun _ _ => False, fun _ _ => False⟩ J (ht _ _ H rfl hdx q)) (fun fl s' hs => ?_) (fun e s' z => z)
  cases fl with
  | ret u =>
   obtain ⟨v, σ', H', J', rv, qv⟩ := hs
   exact ⟨v, H', J'.os, J'.bare, J'.base, J'.hok, rv, qv⟩
  | next =>
   obtain ⟨σ', H', J', qv⟩ := hs
   exact ⟨.non, H', J'.os, J'.bare, J'.base, J'.hok, rfl, qv⟩
  | brk =>
   obtain ⟨_, _, _, z⟩ := hs
   exact False.elim z
  | cont =>
   obtain ⟨_, _, _, z⟩ := hs
   exact False.elim z
 refine wpAny_call (codeAny_mono run ?_)
 rintro (er | fl) s' hq
 ·exact False.elim hq
 ·cases fl with
  | ret u => exact I.after hq
  | _ => exact False.elim hq
end
/-- fk tells the classes of what is caught: kb, by the exception's class -/
structure KdOk (P : Program) (w : World) (K : PySem.W.Frag) (mg : Str -> Option Value) (base : Heap) (k : Nat) (fk : Str) (kb : Str -> Option (List Bool)) : Prop where
 cl : ∀ c bs, kb c = some bs -> ∃ D, mg c = some (.ref D)
 ex : ∃ f, mg fk = some (.ref f) /\ PySem.W.keepIn K (.ref f) = true /\ ∀ (c : Str) (bs : List Bool) (D a : Addr) (X : Cx) (d : Option Addr) (oe : Obj) (pn pins : List (Addr × Obj)) (σ : L2.St) (H : Hp) (s : Shared) (Q : VK), kb c = some bs -> mg c = some (.ref D) ->
  X.prog = P -> X.w = w -> X.K = K -> X.mg = mg -> X.base = base -> Room k X.A -> L2N.Zn (.ref D) d oe -> (∃ vs, oe.data = .fields vs) -> (∀ dx, d = some dx -> ∃ fs, H dx = some (.xd fs)) -> L2.Inv (X.suite a ((a, oe) :: pn)) pins σ H s ->
  (∀ p H2, H p = none -> exH H H2 -> H2 p = some (.lst (bs.map .bl)) -> Q (.ref p) H2) -> wpAny (model X.prog X.w) (X.suite a ((a, oe) :: pn)).A (call (.ref f) [.ref a]) (EP (X.suite a ((a, oe) :: pn)) pins σ Q) (X.suite a ((a, oe) :: pn)).xe s
theorem kd_of {P : Program} {w : World} {K : PySem.W.Frag} {mg : Str -> Option Value} {base : Heap} {f : Addr} {fk qual x0 y : Str} {params : Arguments} {body : List Stmt} {scope : Scope} {kV doc pm cdv ct oc : Value} {an od : Option Addr} {osl : Array (Option Value)} {k : Nat} {n1 n2 n3 : List Str} {kb : Str -> Option (List Bool)}
  (hm : mg fk = some (.ref f)) (hk : PySem.W.keepIn K (.ref f) = true) (lk : K.lookup f = some ⟨oc, od, .func (PySem.W.fnOf fk qual params body scope .none kV doc pm an cdv ct), osl⟩) (hcd : PySem.W.codeIn K cdv qual = true) (S : FnScope [x0, y] [x0] scope)
  (hb : ∀ u, bindArgs (PySem.W.fnOf fk qual params body scope .none kV doc pm an cdv ct) ⟨[u], []⟩ = pure [(x0, u)])
  (hv : scope.names.lookup x0 = some NameKind.local) (hvy : scope.names.lookup y = some NameKind.local) (hd : ∀ z ∈ [x0, y], (z == ("__debug__" : Str)) = false /\ (z == ("__classdict__" : Str)) = false)
  (gi : scope.names.lookup ("isinstance" : Str) = some .globalImplicit) (mi : mg "isinstance" = none) (hg : ∀ c ∈ n1 ++ n2 ++ n3, scope.names.lookup c = some .globalImplicit /\ (c == ("__debug__" : Str)) = false) (B : KBody x0 y body n1 n2 n3)
  (hkb : ∀ c bs, kb c = some bs -> ∃ D, mg c = some (.ref D) /\ ExcI K D /\ ∃ b1 b2 b3, bs = b1 ++ b2 ++ b3 /\ KBs K mg D n1 b1 /\ KBs K mg D n2 b2 /\ KBs K mg D n3 b3 /\ b1.length + b2.length + b3.length <= 100) : KdOk P w K mg base (k + 1) fk kb := by
 refine ⟨fun c bs e => let ⟨D, h, _⟩ := hkb c bs e; ⟨D, h⟩, f, hm, hk, ?_⟩
 rintro c bs D a X d oe pn pins σ H s Q e1 e2 e3 e4 e5 e6 e7 hr hz hf hdx I q
 subst e3 e4 e5 e6 e7
 obtain ⟨D', e2', CI, b1, b2, b3, rfl, k1, k2, k3, hl⟩ := hkb c _ e1
 rw [e2] at e2'
 cases e2'
 exact kinds_run CI hz hf hr lk hcd S (hb _) hv hvy hd gi mi hg B k1 k2 k3 hl hdx I q
/-- y = fk(e), in the suite -/
theorem pe_kd {X : Cx} {a D : Addr} {d : Option Addr} {oe : Obj} {pn : List (Addr × Obj)} {k i : Nat} {fk n : Str} {kb : Str -> Option (List Bool)} {p1 p2 pos : Pos} (T : KdOk X.prog X.w X.K X.mg X.base k fk kb) (hr : Room k X.A) (hg : Gl X fk) (hi : X.N[i]? = some n) (hv : Vis X.env.scope n) (hz : L2N.Zn (.ref D) d oe) (hf : ∃ vs, oe.data = .fields vs)
  (hdb : (fk == ("__debug__" : Str)) = false) (hd1 : (n == ("__debug__" : Str)) = false) (hd2 : (n == ("__classdict__" : Str)) = false) :
  PE (X.suite a ((a, oe) :: pn)) (.Call (.Name fk p1) [.Name n p2] [] pos) (fun σ H Q => ∃ c bs, kb c = some bs /\ X.mg c = some (.ref D) /\ σ[i]? = some (some (.ref a)) /\ (∀ dx, d = some dx -> ∃ fs, H dx = some (.xd fs)) /\ ∀ p H2, H p = none -> exH H H2 -> H2 p = some (.lst (bs.map .bl)) -> Q (.ref p) H2) := by
 obtain ⟨f, hm, hk, run⟩ := T.ex
 refine ⟨fun pins s σ H Q I h => ?_⟩
 obtain ⟨c, bs, h1, h2, h3, h4, q⟩ := h
 refine wpAny_Call_Name_kw (ld_glob I hg hm ?_ hdb)
 have ha : PA (X.suite a ((a, oe) :: pn)) [.Name n p2] (tCons (tVar i) tNil) := pa_cons (pe_var (X := X.suite a ((a, oe) :: pn)) hi hv hd1 hd2) pa_nil
 refine PySem.W.callWith_K (h₀ := X.base) I.ok.mod.kin hk (thn (ha.run pos pins s σ H (fun vs H1 => vs = [V.ref a] /\ H = H1) I ⟨_, h3, rfl, rfl⟩) fun us s1 hh => ?_)
 obtain ⟨vs, H1, I1, r1, ev, eH⟩ := hh
 subst ev
 rw [<- eH] at I1
 refine ⟨I1.kIn, ?_⟩
 cases r1 with
 | cons ru rn =>
  cases rn
  cases ru
  exact run c bs D a X d oe pn pins σ H s1 Q h1 h2 rfl rfl rfl rfl rfl hr hz hf h4 I1 q
end Sh
namespace Sh
open PySem PySem.Spec PyProof.Rows L2 NdefX GenE
open GxR (TabB TabG Tabbed)
def hKinds (i kk : Nat) (kb : Str -> Option (List Bool)) : Hd := fun c _ _ ρ M => match kb c with
 | some bs => if i < ρ.length then some (.nx, (ρ.set i none).set kk (some (.ref M.length)), M ++ [.lst (bs.map .bl)]) else none
 | none => none
def hKindsAt (i kk ka : Nat) (fld : Str) (kb : Str -> Option (List Bool)) : Hd := fun c n xs ρ M => match kb c with
 | some bs => match xs with
  | x :: _ => if n = fld /\ i < ρ.length then some (.nx, ((ρ.set i none).set kk (some (.ref M.length))).set ka (some x), M ++ [.lst (bs.map .bl)]) else none
  | [] => none
 | none => none
theorem Rσ.none {K : PySem.W.Frag} {μ : List Addr} {H : Hp} {ρ : Env} {σ : L2.St} (r : Rσ K μ H ρ σ) (i : Nat) : Rσ K μ H (ρ.set i none) (σ.set i none) := by
 refine ⟨by simp [r.len], fun j v e => ?_⟩
 by_cases hj : i = j
 ·subst hj
  rw [List.getElem?_set] at e
  simp at e
 ·rw [List.getElem?_set_ne hj] at e
  rw [List.getElem?_set_ne hj]
  exact r.at_ j v e
theorem set_back {α : Type} {l : List α} {i k : Nat} {x y z : α} (h : i ≠ k) : ((l.set i x).set k y).set i z = (l.set i z).set k y := by
 rw [List.set_comm _ _ (Ne.symm h), List.set_set]
/-- a new list, other new things beside it -/
theorem RS.allocG {K : PySem.W.Frag} {T : Tb} {μ : List Addr} {H H2 : Hp} {M : Mem} {p : Addr} {ws : List V} {xs : List Vl} (r : RS K T μ H M) (np : H p = none) (ex : exH H H2) (h2 : H2 p = some (.lst ws)) (rv : ∀ μ' H', RvA K μ' H' xs ws) :
  RS K T (μ ++ [p]) H2 (M ++ [.lst xs]) /\ Ext μ H (μ ++ [p]) H2 /\ Rv K (μ ++ [p]) H2 (.ref M.length) (.ref p) := by
 let Hm : Hp := fun b => if b = p then none else H2 b
 have hm : ∀ {b}, b ≠ p -> Hm b = H2 b := fun {b} hb => if_neg hb
 have hp : Hm p = none := if_pos rfl
 have gr : Grow T H Hm := by
  refine ⟨fun b o e _ => by rw [hm (ne_of_none e np)]; exact ex b o e, fun P hP => ?_⟩
  obtain ⟨ps, h, t⟩ := r.tab P hP
  exact ⟨ps, by rw [hm (ne_of_none h np)]; exact ex _ _ h, t⟩
 have e2 : upd Hm p (.lst ws) = H2 := by
  funext b
  by_cases hb : b = p
  ·rw [hb, upd_same, h2]
  ·rw [upd_ne hb, hm hb]
 obtain ⟨s3, e3, r3⟩ := (r.grow gr).alloc (u := .lst ws) (o := .lst xs) hp fun e => ⟨ws, upd_same, rv _ _⟩
 rw [e2] at s3 e3 r3
 exact ⟨s3, gr.ext.trans e3, r3⟩
theorem rva_bl {K : PySem.W.Frag} {μ : List Addr} {H : Hp} : ∀ bs : List Bool, RvA K μ H (bs.map .bl) (bs.map .bl)
 | [] => .nil
 | b :: bs => .cons (.bl b) (rva_bl bs)
section
variable {F : FamX} {i kk ka k : Nat} {fk n yk ya fld : Str} {kb : Str -> Option (List Bool)} {p1 p2 p3 p4 p5 p6 p7 p8 p9 : Pos}
def tKd (F : FamX) (kb : Str -> Option (List Bool)) (i : Nat) (a D : Addr) (d : Option Addr) : TE := fun σ H Q => ∃ c bs, kb c = some bs /\ F.mg c = some (.ref D) /\ σ[i]? = some (some (.ref a)) /\ (∀ dx, d = some dx -> ∃ fs, H dx = some (.xd fs)) /\ ∀ p H2, H p = none -> exH H H2 -> H2 p = some (.lst (bs.map .bl)) -> Q (.ref p) H2
theorem ps_kd (T : KdOk F.prog F.w F.K F.mg F.base k fk kb) (hlv : k <= F.lv) (hg : Glb F.toFam fk) (hN : F.N.Nodup) (hi : F.N[i]? = some n) (hk : F.N[kk]? = some yk) (hln : F.sc.names.lookup n = some NameKind.local) (hlk : F.sc.names.lookup yk = some NameKind.local)
  (hdb : (fk == ("__debug__" : Str)) = false) (hd1 : (n == ("__debug__" : Str)) = false) (hd2 : (n == ("__classdict__" : Str)) = false) {j : F.ι} {a D : Addr} {d : Option Addr} {oe : Obj} {pn : List (Addr × Obj)} (hz : L2N.Zn (.ref D) d oe) (hf : ∃ vs, oe.data = .fields vs) :
  PS ((F.X j).suite a ((a, oe) :: pn)) (.Assign [.Name yk p1] (.Call (.Name fk p2) [.Name n p3] [] p4) p5) (tAsg (tKd F kb i a D d) (gName kk)) := by
 have pe := pe_kd (X := F.X j) (a := a) (i := i) (p1 := p2) (p2 := p3) (pos := p4) (pn := pn) (kb := kb) (k := k) (fk := fk) (n := n) (by rw [F.hprog j, F.hw j, F.hK j, F.hmg j, F.hbase j]; exact T) ((F.hr j).mono hlv) (hg.gl j) (by rw [F.hN j]; exact hi) (.inl (by rw [F.hsc j]; exact hln)) hz hf hdb hd1 hd2
 rw [F.hmg j] at pe
 exact ps_set (X := (F.X j).suite a ((a, oe) :: pn)) (by show (F.X j).N.Nodup; rw [F.hN j]; exact hN) (by show (F.X j).N[kk]? = _; rw [F.hN j]; exact hk) (.inl (by show (F.X j).env.scope.names.lookup yk = _; rw [F.hsc j]; exact hlk)) pe (by rfl) (.inr (by show (F.X j).env.scope.names.lookup yk = _; rw [F.hsc j]; exact hlk))
theorem hds_kinds (T : KdOk F.prog F.w F.K F.mg F.base k fk kb) (hlv : k <= F.lv) (hg : Glb F.toFam fk) (hN : F.N.Nodup) (hi : F.N[i]? = some n) (hk : F.N[kk]? = some yk) (hln : F.sc.names.lookup n = some NameKind.local) (hlk : F.sc.names.lookup yk = some NameKind.local)
  (hdb : (fk == ("__debug__" : Str)) = false) (hd1 : (n == ("__debug__" : Str)) = false) (hd2 : (n == ("__classdict__" : Str)) = false) (hne : i ≠ kk) : HdS F i [.Assign [.Name yk p1] (.Call (.Name fk p2) [.Name n p3] [] p4) p5] (hKinds i kk kb) := by
 refine ⟨fun a cls d D' σ H => ∃ D, cls = .ref D /\ tAsg (tKd F kb i a D d) (gName kk) D' σ H, fun j a oe cls d pn hz hf => ⟨fun pins s σ H D' I q => ?_⟩, fun a cls d σ H μ ρ M c n xs o ρ' M' D' e rσ rs rx na q => ?_⟩
 ·obtain ⟨D, rfl, q⟩ := q
  exact (pss_one (ps_kd T hlv hg hN hi hk hln hlk hdb hd1 hd2 hz hf)).run pins s σ H D' I q
 ·unfold hKinds at e
  split at e
  ·rename_i bs hbs
   split at e
   ·rename_i hlen
    cases e
    obtain ⟨hm, hx⟩ := rx
    obtain ⟨D, hD⟩ := T.cl c bs hbs
    rw [hm] at hD
    cases hD
    refine ⟨D, rfl, c, bs, hbs, hm, by rw [List.getElem?_set_self (by rw [<- rσ.len]; exact hlen)], fun dx ed => ?_, fun p H2 np ex h2 => ?_⟩
    ·cases xs with
     | nil =>
      have hx : d = none := hx
      rw [hx] at ed
      cases ed
     | cons x r =>
      obtain ⟨dx', w, ed', h3, _⟩ := hx
      rw [ed] at ed'
      cases ed'
      exact ⟨_, h3⟩
    ·obtain ⟨s3, e3, r3⟩ := rs.allocG np ex h2 (xs := bs.map .bl) fun _ _ => rva_bl bs
     show D'.nx ((((σ.set i (some (V.ref a))).set kk (some (V.ref p))).set i none)) H2
     rw [set_back hne]
     exact q _ _ _ e3 (((rσ.ext e3).none i).set r3) s3
   ·cases e
  ·cases e
/-- .. and its field -/
structure XfA (K : PySem.W.Frag) (mg : Str -> Option Value) (fld : Str) (kb : Str -> Option (List Bool)) : Prop where
 ok : ∀ c bs D, kb c = some bs -> mg c = some (.ref D) -> XfC K D /\ PySem.W.findIn K (.ref D) fld = some none
theorem hds_kindsAt (T : KdOk F.prog F.w F.K F.mg F.base k fk kb) (TA : XfA F.K F.mg fld kb) (hlv : k <= F.lv) (hg : Glb F.toFam fk) (hN : F.N.Nodup) (hi : F.N[i]? = some n) (hk : F.N[kk]? = some yk) (ha : F.N[ka]? = some ya) (hln : F.sc.names.lookup n = some NameKind.local) (hlk : F.sc.names.lookup yk = some NameKind.local) (hla : F.sc.names.lookup ya = some NameKind.local)
  (hdb : (fk == ("__debug__" : Str)) = false) (hd1 : (n == ("__debug__" : Str)) = false) (hd2 : (n == ("__classdict__" : Str)) = false) (hne : i ≠ kk) (hna : i ≠ ka)
  (hab : ∀ env, attributeBase (.Name n p7) fld env (eval (.Name n p7) env) = eval (.Name n p7) env := by intro _; rfl) (hsw : ∀ env, swapsWith (.Attribute (.Name n p7) fld p8) (some (.Name ya p6)) p9.line env = pure false := by intro _; rfl) :
  HdS F i [.Assign [.Name yk p1] (.Call (.Name fk p2) [.Name n p3] [] p4) p5, .Assign [.Name ya p6] (.Attribute (.Name n p7) fld p8) p9] (hKindsAt i kk ka fld kb) := by
 refine ⟨fun a cls d D' σ H => ∃ D, cls = .ref D /\ (XfC F.K D /\ PySem.W.findIn F.K (.ref D) fld = some none) /\ tSeq (tAsg (tKd F kb i a D d) (gName kk)) (tAsg (tXf a cls d D fld (tVar i)) (gName ka)) D' σ H, fun j a oe cls d pn hz hf => ⟨fun pins s σ H D' I q => ?_⟩, fun a cls d σ H μ ρ M c n xs o ρ' M' D' e rσ rs rx na q => ?_⟩
 ·obtain ⟨D, rfl, ⟨hx1, hx2⟩, q⟩ := q
  have hv : Vis (F.X j).env.scope n := .inl (by rw [F.hsc j]; exact hln)
  have la : ((F.X j).suite a ((a, oe) :: pn)).env.scope.names.lookup ya = some NameKind.local := by
   show (F.X j).env.scope.names.lookup ya = _
   rw [F.hsc j]
   exact hla
  have pe2 := pe_xf (X := F.X j) (a := a) (C := D) (pn := pn) (pos := p8) (n := fld) (by rw [F.hK j]; exact hx1) (by rw [F.hK j]; exact hx2) hz.zc hf (pe_var (X := (F.X j).suite a ((a, oe) :: pn)) (pos := p7) (i := i) (by show (F.X j).N[i]? = _; rw [F.hN j]; exact hi) hv hd1 hd2) (hab _)
  exact (pss_cons (ps_kd T hlv hg hN hi hk hln hlk hdb hd1 hd2 hz hf) (pss_one (ps_set (X := (F.X j).suite a ((a, oe) :: pn)) (by show (F.X j).N.Nodup; rw [F.hN j]; exact hN) (by show (F.X j).N[ka]? = _; rw [F.hN j]; exact ha) (.inl la) pe2 (hsw _) (.inr la)))).run pins s σ H D' I q
 ·unfold hKindsAt at e
  split at e
  ·rename_i bs hbs
   split at e
   ·rename_i x xs1
    split at e
    ·rename_i hlen
     obtain ⟨hfld, hlen⟩ := hlen
     subst hfld
     cases e
     obtain ⟨hm, dx, w, ed, h3, rw1⟩ := rx
     obtain ⟨D, hD⟩ := T.cl c bs hbs
     rw [hm] at hD
     cases hD
     have gi : (σ.set i (some (V.ref a)))[i]? = some (some (V.ref a)) := List.getElem?_set_self (by rw [<- rσ.len]; exact hlen)
     refine ⟨D, rfl, TA.ok c bs D hbs hm, c, bs, hbs, hm, gi, fun dx' ed' => ?_, fun p H2 np ex h2 => ?_⟩
     ·rw [ed] at ed'
      cases ed'
      exact ⟨_, h3⟩
     ·obtain ⟨s3, e3, r3⟩ := rs.allocG np ex h2 (xs := bs.map .bl) fun _ _ => rva_bl bs
      refine ⟨.ref a, ?_, rfl, rfl, dx, _, w, ed, ex _ _ h3, by simp [List.lookup], ?_⟩
      ·rw [List.getElem?_set_ne (Ne.symm hne)]
       exact gi
      ·show D'.nx (((((σ.set i (some (V.ref a))).set kk (some (V.ref p))).set ka (some w)).set i none)) H2
       rw [List.set_comm _ _ (Ne.symm hna), set_back hne]
       exact q _ _ _ e3 ((((rσ.ext e3).none i).set r3).set (rw1.ext e3)) s3
    ·cases e
   ·cases e
  ·cases e
end
end Sh
namespace Pu
open PySem PySem.Spec PyProof.Rows L2 NdefX GenE Sh
def Dv.fly : Dv -> Bool
 | .exc _ _ _ => true
 | _ => false
section
variable {Z : Nat -> Prop} {M : Mem} {f : Fe} {p : Pe}
theorem Den.nofly {v : Vl} {d : Dv} (h : Den Z M v d) (hd : d.fly = false) : ∀ c n xs, v ≠ .exc c n xs := fun c n xs e => by
 subst e
 cases h
 cases hd
def pNx (p : Pe) : Pe := fun a => (p a).bind fun r => match r.1 with
 | .v o d => if d.fly = true then none else some (.v o d, r.2)
 | .pl _ => none
theorem eNx_of {ρ : Sh.Env} {v : Vl} {M1 : Mem} (e : f ρ M = some (v, M1)) (h : ∀ c n xs, v ≠ .exc c n xs) : eNx f ρ M = some (v, M1) := by
 unfold eNx
 rw [e]
 cases v with
 | exc c n xs => exact (h c n xs rfl).elim
 | _ => rfl
theorem AvR.nofly {n : Nat} {ρ : Sh.Env} {a : AEnv} {v : Vl} {o : Bool} {d : Dv} (r : AvR n Z M ρ a v (.v o d)) (hd : d.fly = false) : ∀ c n xs, v ≠ .exc c n xs := by
 cases o with
 | false => exact Den.nofly r hd
 | true =>
  obtain ⟨k, rfl, _⟩ := r
  exact fun _ _ _ z => nomatch z
theorem ae_nx (h : AE f p) : AE (eNx f) (pNx p) := by
 intro B Z M ρ a y a' inv e
 unfold pNx at e
 obtain ⟨⟨x, a1⟩, e1, e⟩ := Option.bind_eq_some_iff.mp e
 obtain ⟨v, M1, Z1, f1, s1, r1⟩ := h _ _ _ _ _ _ _ inv e1
 cases x with
 | pl i => cases e
 | v o d =>
  simp only at e
  split at e
  ·cases e
  ·rename_i hd
   cases e
   exact ⟨v, M1, Z1, eNx_of f1 (r1.nofly (by simpa using hd)), s1, r1⟩
def zRaiseM (c : Str) : Ps := fun a => some (.rt false (.exc c "" []), a)
theorem as_raiseM (c : Str) : AS (sRaiseM c) (zRaiseM c) := by
 intro B Z M ρ a y a' inv e
 cases e
 exact ⟨_, ρ, M, Z, rfl, .refl inv, .exc .nil⟩
def zRaiseF (c n : Str) (p : Pe) : Ps := fun a => (pK p a).bind fun r => match r.1 with
 | .v false d => some (.rt false (.exc c n [d]), r.2)
 | _ => none
theorem as_raiseF (c n : Str) (h : AE f p) : AS (sRaiseF c n f) (zRaiseF c n p) := by
 intro B Z M ρ a y a' inv e
 unfold zRaiseF at e
 obtain ⟨⟨x, a1⟩, e1, e⟩ := Option.bind_eq_some_iff.mp e
 obtain ⟨v, M1, Z1, f1, s1, r1⟩ := (ae_k h) _ _ _ _ _ _ _ inv e1
 split at e
 ·rename_i d hx
  cases hx
  cases e
  exact ⟨.rt (.exc c n [v]), ρ, M1, Z1, by simp only [sRaiseF, f1], s1.st, Den.exc (.cons r1 .nil)⟩
 ·cases e
def flyA : Av -> Option Dv
 | .v false (.exc c n ds) => some (.exc c n ds)
 | _ => none
theorem flyA_some {y : Av} {d : Dv} (h : flyA y = some d) : ∃ c n ds, y = .v false (.exc c n ds) /\ d = .exc c n ds := by
 unfold flyA at h
 split at h
 ·cases h; exact ⟨_, _, _, rfl, rfl⟩
 ·cases h
theorem sAsgX_of {g : Fg} {ρ : Sh.Env} {r : Out × Sh.Env × Mem} (h : sAsg (eNx f) g ρ M = some r) : sAsgX f g ρ M = some r := by
 unfold sAsg eNx at h
 unfold sAsgX
 rcases hf : f ρ M with _ | ⟨v, M1⟩
 ·rw [hf] at h; cases h
 ·rw [hf] at h
  cases v <;> first | exact h | cases h
/-- the exception flies, or z -/
def zFly (p : Pe) (z : Ps) : Ps := fun a => (p a).bind fun r => match flyA r.1 with
 | some d => some (.rt false d, r.2)
 | none => z a
theorem as_fly {s s' : Fs} {z : Ps} (h : AE f p) (h' : AS s' z) (hs : ∀ ρ M r, s' ρ M = some r -> s ρ M = some r) (hx : ∀ ρ M c n xs M1, f ρ M = some (.exc c n xs, M1) -> s ρ M = some (.rt (.exc c n xs), ρ, M1)) : AS s (zFly p z) := by
 intro B Z M ρ a y a' inv e
 unfold zFly at e
 obtain ⟨⟨x, a1⟩, e1, e⟩ := Option.bind_eq_some_iff.mp e
 split at e
 ·rename_i d hd
  cases e
  obtain ⟨c, n, ds, hx1, rfl⟩ := flyA_some hd
  simp only at hx1
  subst hx1
  obtain ⟨v, M1, Z1, f1, s1, r1⟩ := h _ _ _ _ _ _ _ inv e1
  cases r1 with
  | exc r => exact ⟨_, ρ, M1, Z1, hx _ _ _ _ _ _ f1, s1.st, Den.exc r⟩
  | ref _ _ q => cases q
 ·obtain ⟨o, ρ', M', Z', f1, r1⟩ := h' _ _ _ _ _ _ _ inv e
  exact ⟨o, ρ', M', Z', hs _ _ _ f1, r1⟩
abbrev zSetX (i : Nat) (p : Pe) : Ps := zFly p (zSet i (pNx p))
theorem as_setX (i : Nat) (h : AE f p) : AS (sAsgX f (gN i)) (zSetX i p) :=
 as_fly h (as_set i (ae_nx h)) (fun _ _ _ e => sAsgX_of e) fun ρ M c n xs M1 e => by unfold sAsgX; rw [e]
abbrev zAsgX (p : Pe) (g : Pg) : Ps := zFly p (zAsg (pNx p) g)
abbrev Ph := Str -> Str -> List Dv -> Ps
def AH (h : Hd) (q : Ph) : Prop := ∀ (c n : Str) (B : Nat) (Z : Nat -> Prop) (M : Mem) (ρ : Sh.Env) (a : AEnv) (xs : List Vl) (ds : List Dv) (y : AOut) (a' : AEnv), Inv B Z M ρ a -> DenA Z M xs ds -> q c n ds a = some (y, a') ->
 ∃ o ρ' M' Z', h c n xs ρ M = some (o, ρ', M') /\ StS B ρ Z M a ρ' Z' M' a' /\ OutR B Z' M' y o
def zTry (z : Ps) (cs : Str -> Option Bool) (q : Ph) : Ps := fun a => (z a).bind fun r => match r.1 with
 | .rt false (.exc c n ds) => match cs c with
  | some true => q c n ds r.2
  | some false => some (.rt false (.exc c n ds), r.2)
  | none => none
 | o => some (o, r.2)
theorem as_try {s : Fs} {z : Ps} {cs : Str -> Option Bool} {h : Hd} {q : Ph} (hz : AS s z) (hh : AH h q) : AS (sTry s cs h) (zTry z cs q) := by
 intro B Z M ρ a y a' inv e
 unfold zTry at e
 obtain ⟨⟨x, a1⟩, e1, e⟩ := Option.bind_eq_some_iff.mp e
 obtain ⟨o, ρ1, M1, Z1, f1, s1, r1⟩ := hz _ _ _ _ _ _ _ inv e1
 split at e
 ·rename_i c n ds hx
  simp only at hx
  subst hx
  cases o with
  | rt v =>
   cases r1 with
   | exc r =>
    split at e
    ·rename_i hc
     obtain ⟨o2, ρ2, M2, Z2, f2, s2, r2⟩ := hh c n B Z1 M1 ρ1 a1 _ ds y a' s1.inv r e
     exact ⟨o2, ρ2, M2, Z2, by simp only [sTry, f1, hc]; exact f2, s1.trans s2, r2⟩
    ·rename_i hc
     cases e
     exact ⟨.rt (.exc c n _), ρ1, M1, Z1, by simp only [sTry, f1, hc], s1, Den.exc r⟩
    ·cases e
   | ref _ _ q => cases q
  | _ => cases r1
 ·rename_i hne
  cases e
  refine ⟨o, ρ1, M1, Z1, ?_, s1, r1⟩
  unfold sTry
  rw [f1]
  split
  ·rename_i c n xs ρ2 M2 he
   cases he
   cases x with
   | rt o d =>
    cases o with
    | false =>
     cases r1 with
     | exc r => exact (hne c n _ rfl).elim
     | _ => skip
    | true =>
     obtain ⟨k, z, _⟩ := r1
     cases z
   | _ => cases r1
  ·rfl
def qNone : Ph := fun _ _ _ a => some (.rt false .non, a)
/-- a slot is let go -/
theorem StS.wipe {B : Nat} {ρ : Sh.Env} {a : AEnv} {i : Nat} (inv : Inv B Z M ρ a) (hf : freeB a i = true) : StS B ρ Z M a (ρ.set i none) Z M (a.set i none) := by
 have ga : ∀ {j : Nat} {s : Sl}, (a.set i none)[j]? = some (some s) -> i ≠ j /\ a[j]? = some (some s) := fun {j s} e => by
  by_cases hj : i = j
  ·subst hj
   rw [List.getElem?_set] at e
   simp at e
  ·rw [List.getElem?_set_ne hj] at e
   exact ⟨hj, e⟩
 have gr : ∀ {j : Nat}, i ≠ j -> (ρ.set i none)[j]? = ρ[j]? := fun {j} hj => List.getElem?_set_ne hj
 have mu : ∀ k, Mu (ρ.set i none) (a.set i none) k -> Mu ρ a k := fun k ⟨j, s, h1, h2, h3⟩ => by
  obtain ⟨hj, h1'⟩ := ga h1
  exact ⟨j, s, h1', h2, by rw [gr hj] at h3; exact h3⟩
 refine ⟨Le.refl, ⟨by simp [inv.len], inv.dom, fun j s e => ?_, fun j j' k s t hne e1 hm e2 e3 => ?_, fun j d k e1 e2 => ?_, inv.bM⟩, fun k m => .inl (mu k m), fun j s' k e1 e2 hk => ?_, fun j s e hp => ?_⟩
 ·obtain ⟨hj, e'⟩ := ga e
  rw [gr hj]
  exact inv.at_ j s e'
 ·obtain ⟨h1, e1'⟩ := ga e1
  obtain ⟨h2, e3'⟩ := ga e3
  rw [gr h1] at e2
  rw [gr h2]
  exact inv.sep j j' k s t hne e1' hm e2 e3'
 ·obtain ⟨h1, e1'⟩ := ga e1
  rw [gr h1] at e2
  exact inv.base j d k e1' e2
 ·obtain ⟨h1, e1'⟩ := ga e1
  rw [gr h1] at e2
  exact .inr ⟨s', e1', e2⟩
 ·have hj : i ≠ j := fun z => by
   subst z
   unfold freeB at hf
   rw [e] at hf
   simp [hp] at hf
  exact ⟨gr hj, s, by rw [List.getElem?_set_ne hj]; exact e, .refl s⟩
def pNewBs (bs : List Bool) : Pe := fun a => some (.v true (.lst (bs.map .bl)), a)
def eNewBs (bs : List Bool) : Fe := fun _ M => some (.ref M.length, M ++ [.lst (bs.map .bl)])
theorem denA_bl : ∀ bs : List Bool, DenA Z M (bs.map .bl) (bs.map .bl)
 | [] => .nil
 | b :: bs => .cons (.bl b) (denA_bl bs)
theorem ae_newBs (bs : List Bool) : AE (eNewBs bs) (pNewBs bs) := by
 intro B Z M ρ a y a' inv e
 cases e
 exact ⟨_, _, Z, rfl, .app inv, fresh inv (.lst (denA_bl bs))⟩
def qKinds (i kk : Nat) (kb : Str -> Option (List Bool)) : Ph := fun c _ _ a => (kb c).bind fun bs => if i < a.length /\ freeB a i = true then zSet kk (pNewBs bs) (a.set i none) else none
theorem ah_kinds (i kk : Nat) (kb : Str -> Option (List Bool)) : AH (hKinds i kk kb) (qKinds i kk kb) := by
 intro c n B Z M ρ a xs ds y a' inv _ e
 unfold qKinds at e
 obtain ⟨bs, e1, e⟩ := Option.bind_eq_some_iff.mp e
 split at e
 ·rename_i hl
  have s1 := StS.wipe inv hl.2
  obtain ⟨o, ρ2, M2, Z2, f2, s2, r2⟩ := as_set kk (ae_newBs bs) _ _ _ _ _ _ _ s1.inv e
  refine ⟨o, ρ2, M2, Z2, ?_, s1.trans s2, r2⟩
  have hl' : i < ρ.length := by rw [inv.len]; exact hl.1
  unfold hKinds
  rw [e1]
  simp only [if_pos hl']
  exact f2
 ·cases e
def qKindsAt (i kk ka : Nat) (fld : Str) (kb : Str -> Option (List Bool)) : Ph := fun c n ds a => (kb c).bind fun bs => match ds with
 | d :: _ => if n = fld /\ i < a.length /\ freeB a i = true then (zSet kk (pNewBs bs) (a.set i none)).bind fun r => (pgN ka d r.2).map fun a2 => (r.1, a2) else none
 | [] => none
theorem ah_kindsAt (i kk ka : Nat) (fld : Str) (kb : Str -> Option (List Bool)) : AH (hKindsAt i kk ka fld kb) (qKindsAt i kk ka fld kb) := by
 intro c n B Z M ρ a xs ds y a' inv hx e
 unfold qKindsAt at e
 obtain ⟨bs, e1, e⟩ := Option.bind_eq_some_iff.mp e
 cases hx with
 | nil => cases e
 | @cons x d xs ds r rs =>
  simp only at e
  split at e
  ·rename_i hl
   obtain ⟨⟨y1, a1⟩, e2, e⟩ := Option.bind_eq_some_iff.mp e
   obtain ⟨a2, e3, e⟩ := Option.map_eq_some_iff.mp e
   cases e
   have s1 := StS.wipe inv hl.2.2
   obtain ⟨o, ρ2, M2, Z2, f2, s2, r2⟩ := as_set kk (ae_newBs bs) _ _ _ _ _ _ _ s1.inv e2
   have q2 := s1.trans s2
   have rd := Den.mono (q2.le.zz inv) (q2.le.mm inv) r
   obtain ⟨ρ3, M3, Z3, f3, s3⟩ := ag_n ka _ _ _ _ _ _ _ _ s2.inv rd e3
   have hl' : i < ρ.length := by rw [inv.len]; exact hl.2.1
   cases f2
   cases f3
   have hk : hKindsAt i kk ka fld kb c n (x :: xs) ρ M = some (.nx, ((ρ.set i none).set kk (some (.ref M.length))).set ka (some x), M ++ [.lst (bs.map .bl)]) := by
    unfold hKindsAt
    rw [e1]
    exact if_pos (⟨hl.1, hl'⟩ : n = fld /\ i < ρ.length)
   refine ⟨.nx, _, _, Z3, hk, q2.trans s3, ?_⟩
   cases y1 with
   | nx => trivial
   | rt o d => cases o <;> cases r2
   | _ => cases r2
  ·cases e
end
end Pu
namespace Pu
open PySem PySem.Spec PyProof.Rows L2 NdefX GenE Sh
def coldB : Option Sl -> Bool
 | some s => !s.pin
 | none => true
theorem fb_s {x : Option Sl} {l : AEnv} {n : Nat} : freeB (x :: l) (n + 1) = freeB l n := by simp only [freeB, List.getElem?_cons_succ]
theorem fb_0 {x : Option Sl} {l : AEnv} : freeB (x :: l) 0 = coldB x := by cases x <;> rfl
theorem co_none : coldB none = true := rfl
theorem co_fz {d : Dv} : coldB (some (.fz d)) = true := rfl
theorem co_own {d : Dv} : coldB (some (.own d)) = true := rfl
theorem co_bw {d : Dv} : coldB (some (.bw d)) = true := rfl
def fzoB : Option Sl -> Bool
 | some (.fz _) => true
 | some _ => false
 | none => true
def fzo : Option (Option Sl) -> Bool
 | some o => fzoB o
 | none => true
theorem fzB_c {a : AEnv} {v : Nat} {vs : List Nat} : fzB a (v :: vs) = (fzo a[v]? && fzB a vs) := by
 have e : fzB a (v :: vs) = ((match a[v]? with
  | some (some (.fz _)) => true
  | some (some _) => false
  | _ => true) && fzB a vs) := rfl
 rw [e]
 congr 1
 rcases a[v]? with _ | _ | s
 ·rfl
 ·rfl
 ·cases s <;> rfl
theorem fzB_n {a : AEnv} : fzB a [] = true := rfl
theorem fo_s {o : Option Sl} : fzo (some o) = fzoB o := rfl
theorem fo_fz {d : Dv} : fzoB (some (.fz d)) = true := rfl
theorem fo_none : fzoB none = true := rfl
theorem fzo_cold {o : Option Sl} (h : fzoB o = true) : coldB o = true := by
 rcases o with _ | s
 ·rfl
 ·cases s <;> first | rfl | cases h
def one1 (c : Nat) : Str := ⟨#[c]⟩
theorem str_ext {x y : Str} (h : x.cps.toList = y.cps.toList) : x = y := PySem.W.str_of_cps h
theorem app_cps (a b : Str) : (a ++ b).cps.toList = a.cps.toList ++ b.cps.toList := by
 show (a.cps ++ b.cps).toList = _
 simp
theorem join_one : ∀ cs : List Nat, (Txt.join (Str.ofString "") (cs.map one1)) = ⟨cs.toArray⟩ := by
 have h : ∀ cs : List Nat, (Str.join (Str.ofString "") (cs.map one1)).cps.toList = cs := by
  intro cs
  induction cs with
  | nil => rfl
  | cons c cs ih =>
   cases cs with
   | nil => rfl
   | cons c' cs =>
    rw [List.map_cons, List.map_cons, Str.join]
    ·rw [app_cps, app_cps]
     rw [List.map_cons] at ih
     rw [ih]
     rfl
    ·simp
 intro cs
 apply str_ext
 show (Builtin.Str.glued (PySem.Str.ofString "") (cs.map one1)).cps.toList = cs
 rw [StrLaws.glued_eq_join]
 exact h cs
theorem all_cons {α : Type} {p : α -> Prop} {x : α} {xs : List α} (h : p x) (t : ∀ y ∈ xs, p y) : ∀ y ∈ x :: xs, p y := fun y hy => by
 rcases List.mem_cons.mp hy with rfl | hy
 ·exact h
 ·exact t y hy
theorem all_nil {α : Type} {p : α -> Prop} : ∀ y ∈ ([] : List α), p y := fun y hy => nomatch hy
theorem all_app {α : Type} {p : α -> Prop} {xs ys : List α} (h : ∀ y ∈ xs, p y) (t : ∀ y ∈ ys, p y) : ∀ y ∈ xs ++ ys, p y := fun y hy => by
 rcases List.mem_append.mp hy with hy | hy
 ·exact h y hy
 ·exact t y hy
abbrev p16 : Str := Str.ofString "abcdefghijklmnop"
def Wd (x : Str) : Prop := (∀ c ∈ x.cps.toList, c ∈ p16.cps.toList) /\ 1 <= x.length /\ x.length <= 8
theorem p16_at {i : Nat} (h : i < 16) : p16.cps.toList[i]? = some (97 + i) := by
 have : ∀ i, i < 16 -> p16.cps.toList[i]? = some (97 + i) := by decide +kernel
 exact this i h
theorem p16_mem {c : Nat} : c ∈ p16.cps.toList ↔ 97 <= c /\ c < 113 := by
 have e : p16.cps.toList = (List.range 16).map (97 + ·) := by decide +kernel
 rw [e, List.mem_map]
 constructor
 ·rintro ⟨a, h, rfl⟩
  have := List.mem_range.mp h
  omega
 ·intro h
  exact ⟨c - 97, List.mem_range.mpr (by omega), by omega⟩
theorem p16_ix {c : Nat} (h : c ∈ p16.cps.toList) : Builtin.Str.occurrences p16 (one1 c) 0 p16.length 1 = [c - 97] := by
 have : ∀ c ∈ p16.cps.toList, Builtin.Str.occurrences p16 (one1 c) 0 p16.length 1 = [c - 97] := by decide +kernel
 exact this c h
/-- the four words made of one -/
def four (cs : List Nat) (a o : Nat) : List Str := [⟨cs.toArray⟩, ⟨(cs.take a ++ o :: cs.drop (a + 1)).toArray⟩, ⟨(cs ++ [o]).toArray⟩, ⟨(cs.take (cs.length - 1)).toArray⟩]
theorem four_w {cs : List Nat} {a o : Nat} (hc : ∀ c ∈ cs, c ∈ p16.cps.toList) (ho : o ∈ p16.cps.toList) (h2 : 2 <= cs.length) (h7 : cs.length <= 7) (ha : a < cs.length) : ∀ x ∈ four cs a o, Wd x := by
 have len : ∀ l : List Nat, (⟨l.toArray⟩ : Str).length = l.length := fun l => by simp [Str.length]
 refine all_cons ⟨?_, ?_, ?_⟩ (all_cons ⟨?_, ?_, ?_⟩ (all_cons ⟨?_, ?_, ?_⟩ (all_cons ⟨?_, ?_, ?_⟩ all_nil)))
 ·exact hc
 ·rw [len]; omega
 ·rw [len]; omega
 ·exact all_app (fun c h => hc c (List.mem_of_mem_take h)) (all_cons ho fun c h => hc c (List.mem_of_mem_drop h))
 ·rw [len]; simp; omega
 ·rw [len]; simp; omega
 ·exact all_app hc (all_cons ho all_nil)
 ·rw [len]; simp
 ·rw [len]; simp; omega
 ·exact fun c h => hc c (List.mem_of_mem_take h)
 ·rw [len]; simp; omega
 ·rw [len]; simp; omega
theorem four_nd {cs : List Nat} {a o : Nat} (h2 : 2 <= cs.length) (ha : a < cs.length) (hne : cs[a]? ≠ some o) : (four cs a o).Nodup := by
 have len : ∀ l m : List Nat, l.length ≠ m.length -> (⟨l.toArray⟩ : Str) ≠ ⟨m.toArray⟩ := fun l m h e => by
  have : l.toArray = m.toArray := congrArg Str.cps e
  exact h (congrArg (fun z : Array Nat => z.toList.length) this)
 have l1 : (cs.take a ++ o :: cs.drop (a + 1)).length = cs.length := by simp; omega
 have l3 : (cs.take (cs.length - 1)).length = cs.length - 1 := by simp
 have l2 : (cs ++ [o]).length = cs.length + 1 := by simp
 have d01 : (⟨cs.toArray⟩ : Str) ≠ ⟨(cs.take a ++ o :: cs.drop (a + 1)).toArray⟩ := fun e => by
  have : cs.toArray = (cs.take a ++ o :: cs.drop (a + 1)).toArray := congrArg Str.cps e
  have h : cs = cs.take a ++ o :: cs.drop (a + 1) := congrArg Array.toList this
  apply hne
  have hl : (cs.take a).length = a := by simp; omega
  rw [h, List.getElem?_append_right (by omega), hl, Nat.sub_self]
  rfl
 unfold four
 refine List.nodup_cons.mpr ⟨?_, List.nodup_cons.mpr ⟨?_, List.nodup_cons.mpr ⟨?_, List.nodup_cons.mpr ⟨by simp, List.nodup_nil⟩⟩⟩⟩
 ·intro h
  rcases List.mem_cons.mp h with h | h
  ·exact d01 h
  ·rcases List.mem_cons.mp h with h | h
   ·exact len _ _ (by omega) h
   ·exact len _ _ (by omega) (List.mem_singleton.mp h)
 ·intro h
  rcases List.mem_cons.mp h with h | h
  ·exact len _ _ (by omega) h
  ·exact len _ _ (by omega) (List.mem_singleton.mp h)
 ·intro h
  exact len _ _ (by omega) (List.mem_singleton.mp h)
/-- m texts of ws, taken in steps of d from s on, about -/
def turn (ws : List Str) (s d m : Nat) : List Str := (List.range m).map fun i => ws.getD ((s + d * i) % ws.length) ⟨#[]⟩
theorem turn_mem {ws : List Str} {s d m : Nat} (h : 0 < ws.length) : ∀ x ∈ turn ws s d m, x ∈ ws := by
 intro x hx
 obtain ⟨i, _, rfl⟩ := List.mem_map.mp hx
 have hl : (s + d * i) % ws.length < ws.length := Nat.mod_lt _ h
 rw [List.getD_eq_getElem?_getD, List.getElem?_eq_getElem hl]
 exact List.getElem_mem hl
theorem turn_nd {ws : List Str} {s d m : Nat} (hn : ws.Nodup) (h : 0 < ws.length) (hinj : ∀ i j, i < j -> j < m -> (s + d * i) % ws.length ≠ (s + d * j) % ws.length) : (turn ws s d m).Nodup := by
 unfold turn List.Nodup
 rw [List.pairwise_map, List.pairwise_iff_getElem]
 intro i j hi hj hij
 simp only [List.length_range] at hi hj
 simp only [List.getElem_range]
 have h1 : (s + d * i) % ws.length < ws.length := Nat.mod_lt _ h
 have h2 : (s + d * j) % ws.length < ws.length := Nat.mod_lt _ h
 rw [List.getD_eq_getElem?_getD, List.getElem?_eq_getElem h1, List.getD_eq_getElem?_getD, List.getElem?_eq_getElem h2]
 show ws[(s + d * i) % ws.length] ≠ ws[(s + d * j) % ws.length]
 intro e
 have hp := List.pairwise_iff_getElem.mp hn
 rcases Nat.lt_trichotomy ((s + d * i) % ws.length) ((s + d * j) % ws.length) with q | q | q
 ·exact hp _ _ h1 h2 q e
 ·exact hinj i j hij hj q
 ·exact hp _ _ h2 h1 q e.symm
theorem cut_a {cs : List Nat} {a : Nat} (h : a < cs.length) : cutS ⟨cs.toArray⟩ none (some (a : Int)) = ⟨(cs.take a).toArray⟩ := by
 have hl : (⟨cs.toArray⟩ : Str).length = cs.length := by simp [Str.length]
 unfold cutS
 rw [hl, HT.sIx_none, HT.sIx_nat, Nat.min_eq_left (by omega), Nat.sub_zero]
 rfl
theorem cut_b {cs : List Nat} {a : Nat} (h : a < cs.length) : cutS ⟨cs.toArray⟩ (some ((a : Int) + 1)) none = ⟨(cs.drop (a + 1)).toArray⟩ := by
 have hl : (⟨cs.toArray⟩ : Str).length = cs.length := by simp [Str.length]
 have e : some ((a : Int) + 1) = some ((a + 1 : Nat) : Int) := rfl
 unfold cutS
 rw [hl, e, HT.sIx_none, HT.sIx_nat, Nat.min_eq_left (by omega)]
 have : List.take (cs.length - (a + 1)) (List.drop (a + 1) cs) = List.drop (a + 1) cs := List.take_of_length_le (by rw [List.length_drop]; exact Nat.le_refl _)
 exact congrArg (fun l : List Nat => (⟨l.toArray⟩ : Str)) this
theorem cut_c {cs : List Nat} : cutS ⟨cs.toArray⟩ none (some (-1)) = ⟨(cs.take (cs.length - 1)).toArray⟩ := by
 have hl : (⟨cs.toArray⟩ : Str).length = cs.length := by simp [Str.length]
 have e : HT.sIx cs.length cs.length (some (-1)) = cs.length - 1 := by
  unfold HT.sIx
  simp only
  rw [if_pos (show (-1 : Int) < 0 by decide)]
  omega
 unfold cutS
 rw [hl, HT.sIx_none, e, Nat.sub_zero]
 rfl
theorem str_app (l m : List Nat) : (⟨l.toArray⟩ : Str) ++ (⟨m.toArray⟩ : Str) = ⟨(l ++ m).toArray⟩ := by
 apply str_ext
 rw [app_cps]
theorem Wd.ok {x : Str} (h : Wd x) : PyData.strOk x = true := by
 have ha : ∀ c ∈ p16.cps.toList, c < 0x110000 := by decide +kernel
 show x.cps.all (· < 0x110000) = true
 rw [<- Array.all_toList, List.all_eq_true]
 intro c hc
 exact decide_eq_true (ha c (h.1 c hc))
end Pu
namespace Pu
open PySem PySem.Spec PyProof.Rows L2 NdefX GenE Sh
section
variable {p : Pe} {u : Pt} {z : Ps} {g : Pg} {vs : List Nat} {QL : List Dv × AEnv -> Prop} {ds : List Dv}
/-- each item of some kind, the env led on -/
theorem lc_st {ι : Type} (E : ι -> AEnv) (P : Dv -> Prop) {i : ι} (hN : ds.length <= 1000)
  (he : ∀ d i, d ∈ ds -> W (g d (E i)) fun a1 => W (u a1) fun r => r.1 = true /\ W (pK p r.2) (vW fun y a2 => P y /\ ∃ i', wipeA a2 vs = E i'))
  (q : ∀ acc i', acc.length = ds.length -> (∀ y ∈ acc, P y) -> QL (acc, E i')) : W (lcA g u p vs ds (E i) []) QL := by
 refine lc_w (fun rest a acc => (∃ i, a = E i) /\ (∀ y ∈ acc, P y) /\ acc.length + rest.length = ds.length /\ ∀ d ∈ rest, d ∈ ds) ?_ ?_ ds (E i) [] ⟨⟨i, rfl⟩, by simp, by simp, fun d h => h⟩
 ·rintro d rest a acc ⟨⟨i, rfl⟩, hP, hl, hm⟩
  refine (he d i (hm d (.head _))).mono fun a1 h1 => h1.mono fun r h2 => ?_
  rw [if_pos h2.1]
  refine h2.2.mono fun ⟨x, a2⟩ h3 => ?_
  cases x with
  | pl j => exact h3.elim
  | v o y =>
   cases o with
   | true => exact h3.elim
   | false =>
    obtain ⟨h4, i', h5⟩ := h3
    simp only [List.length_cons] at hl
    refine ⟨by have : lim = 100000 := rfl; omega, ⟨i', h5⟩, all_app hP (all_cons h4 all_nil), by simp; omega, fun d' hd' => hm d' (.tail _ hd')⟩
 ·rintro a acc ⟨⟨i, rfl⟩, hP, hl, _⟩
  exact q acc i (by simpa using hl) hP
/-- each item by a function, those that are let by -/
theorem lc_fm (E : AEnv) (b : Dv -> Bool) (f : Dv -> Dv) (hN : ds.length <= 1000)
  (he : ∀ d, d ∈ ds -> W (g d E) fun a1 => W (u a1) fun r => r.1 = b d /\ if b d = true then W (pK p r.2) (vW fun y a2 => y = f d /\ wipeA a2 vs = E) else wipeA r.2 vs = E)
  (q : QL ((ds.filter b).map f, E)) : W (lcA g u p vs ds E []) QL := by
 refine lc_w (fun rest a acc => a = E /\ ∃ pre, ds = pre ++ rest /\ acc = (pre.filter b).map f) ?_ ?_ ds E [] ⟨rfl, [], rfl, rfl⟩
 ·rintro d rest a acc ⟨rfl, pre, hds, rfl⟩
  have hd : d ∈ ds := by rw [hds]; simp
  have hlp : pre.length <= 1000 := by
   have := congrArg List.length hds
   simp only [List.length_append] at this
   omega
  refine (he d hd).mono fun a1 h1 => h1.mono fun r h2 => ?_
  obtain ⟨h2, h3⟩ := h2
  rw [h2]
  by_cases hb : b d = true
  ·rw [if_pos hb] at h3 ⊢
   refine h3.mono fun ⟨x, a2⟩ h3 => ?_
   cases x with
   | pl j => exact h3.elim
   | v o y =>
    cases o with
    | true => exact h3.elim
    | false =>
     obtain ⟨rfl, h5⟩ := h3
     refine ⟨?_, h5, pre ++ [d], by simp [hds], by simp [hb]⟩
     have h6 : ((pre.filter b).map f).length <= pre.length := by rw [List.length_map]; exact List.length_filter_le _ _
     have : lim = 100000 := rfl
     omega
  ·rw [if_neg hb] at h3 ⊢
   exact ⟨h3, pre ++ [d], by simp [hds], by simp [hb]⟩
 ·rintro a acc ⟨rfl, pre, hds, rfl⟩
  rw [List.append_nil] at hds
  rw [<- hds]
  exact q
theorem lc_mp (E : AEnv) (f : Dv -> Dv) (hN : ds.length <= 1000)
  (he : ∀ d, d ∈ ds -> W (g d E) fun a1 => W (u a1) fun r => r.1 = true /\ W (pK p r.2) (vW fun y a2 => y = f d /\ wipeA a2 vs = E))
  (q : QL (ds.map f, E)) : W (lcA g u p vs ds E []) QL := by
 refine lc_fm E (fun _ => true) f hN (fun d hd => (he d hd).mono fun a1 h1 => h1.mono fun r h2 => ⟨h2.1, ?_⟩) ?_
 ·rw [if_pos rfl]; exact h2.2
 ·rw [List.filter_eq_self.mpr fun _ _ => rfl]; exact q
end
theorem rngD_mem {n : Nat} {d : Dv} (h : d ∈ rngD 0 n) : ∃ k : Nat, k < n /\ d = .int k := by
 unfold rngD at h
 obtain ⟨k, hk, rfl⟩ := List.mem_map.mp h
 exact ⟨k, List.mem_range.mp hk, by simp⟩
theorem rngD_len {lo : Int} {n : Nat} : (rngD lo n).length = n := by simp [rngD]
theorem rngD_map {n : Nat} (f : Dv -> Dv) : (rngD 0 n).map f = (List.range n).map fun (k : Nat) => f (.int k) := by
 unfold rngD
 rw [List.map_map]
 apply List.map_congr_left
 intro k _
 simp
theorem le_lim {n : Nat} (h : n <= 1000) : n <= lim := Nat.le_trans h (by decide)
theorem txtsD_map : ∀ ks : List Str, txtsD (ks.map .str) = some ks
 | [] => rfl
 | k :: ks => by simp only [List.map_cons, txtsD, txtsD_map ks, Option.map_some]
theorem join1 {cs : List Nat} (h : cs.length <= 1000) : dJoin (.str (Str.ofString "")) (.lst (cs.map fun c => .str (one1 c))) = some (false, .str ⟨cs.toArray⟩) := by
 have e : cs.map (fun c => Dv.str (one1 c)) = (cs.map one1).map .str := by rw [List.map_map]; rfl
 unfold dJoin
 rw [e]
 simp only [txtsD_map]
 have l : (((cs.map one1).map (·.length)).sum) = cs.length := by
  clear h e
  induction cs with
  | nil => rfl
  | cons c cs ih =>
   have e1 : (one1 c).length = 1 := rfl
   simp only [List.map_cons, List.sum_cons, ih, List.length_cons, e1]
   omega
 have z : (Str.ofString "").length = 0 := by decide +kernel
 rw [l, z, if_pos (by have : lim = 100000 := rfl; omega), join_one]
theorem str_len (l : List Nat) : (⟨l.toArray⟩ : Str).length = l.length := by simp [Str.length]
end Pu
namespace Pu
open PySem PySem.Spec PyProof.Rows L2 NdefX GenE Sh
theorem seqI {c : Int} {n : Nat} (h0 : 0 <= c) (h1 : c < n) : seqIndex? c n = some c.toNat := by
 have e : ixN n c = some c.toNat := by unfold ixN; rw [if_pos h0, if_pos h1]
 exact (ixN_seq e).1
theorem mapO_some {α β : Type} {g : α -> Option β} : ∀ {xs : List α}, (∀ x ∈ xs, (g x).isSome = true) -> ∃ ys, mapO g xs = some ys /\ ys.length = xs.length
 | [], _ => ⟨[], rfl, rfl⟩
 | x :: xs, h => by
  obtain ⟨y, hy⟩ := Option.isSome_iff_exists.mp (h x (.head _))
  obtain ⟨ys, h1, h2⟩ := mapO_some (xs := xs) fun z hz => h z (.tail _ hz)
  exact ⟨y :: ys, by unfold mapO; rw [hy, h1], by simp [h2]⟩
theorem mapO_map {α β γ : Type} {g : β -> Option γ} {f : α -> β} {k : α -> γ} : ∀ {xs : List α}, (∀ x ∈ xs, g (f x) = some (k x)) -> mapO g (xs.map f) = some (xs.map k)
 | [], _ => rfl
 | x :: xs, h => by
  simp only [List.map_cons]
  unfold mapO
  rw [h x (.head _), mapO_map fun z hz => h z (.tail _ hz)]
/-- it is data of depth n -/
def Dat (n : Nat) (d : Dv) : Prop := (toDD n d).isSome = true
theorem dat_int {n : Nat} {i : Int} : Dat (n + 1) (.int i) := rfl
theorem eqv_nil {ds : List PyData} : PyData.eqv (.list ds) (.list []) = ds.isEmpty := by
 cases ds <;> simp [PyData.eqv, PyData.eqvAll]
theorem ne_nil {xs : List Dv} {Q : Bool × Dv -> Prop} (h : ∀ x ∈ xs, Dat 19 x) (q : Q (false, .bl (!xs.isEmpty))) : W (dNe (.lst xs) (.lst [])) Q := by
 obtain ⟨ds, h1, h2⟩ := mapO_some h
 have e1 : toDD 20 (.lst xs) = some (.list ds) := by
  unfold toDD
  rw [h1]
  rfl
 have e2 : toDD 20 (.lst []) = some (.list []) := rfl
 rw [o_ne, e1, e2, w_some, w_some, eqv_nil]
 have e3 : ds.isEmpty = xs.isEmpty := by
  cases ds <;> cases xs <;> simp at h2 ⊢
 rw [e3]
 exact q
theorem eqI {i j : Int} {Q : Bool × Dv -> Prop} : W (dEq (.int i) (.int j)) Q = Q (false, .bl (i == j)) := by
 have e : ∀ k : Int, toDD 20 (.int k) = some (.int k) := fun _ => rfl
 rw [o_eq, e, e, w_some, w_some]
 simp only [PyData.eqv]
theorem map_erase {α β : Type} (f : α -> β) : ∀ (l : List α) (i : Nat), (l.map f).eraseIdx i = (l.eraseIdx i).map f
 | [], _ => rfl
 | _ :: _, 0 => rfl
 | x :: l, i + 1 => by simp only [List.map_cons, List.eraseIdx_cons_succ, map_erase f l i]
theorem erase_perm {α : Type} : ∀ {l : List α} {i : Nat} {x : α}, l[i]? = some x -> (x :: l.eraseIdx i).Perm l
 | y :: l, 0, x, h => by cases h; exact .refl _
 | y :: l, i + 1, x, h => by
  rw [List.eraseIdx_cons_succ]
  exact (List.Perm.swap y x _).trans ((erase_perm (l := l) (i := i) h).cons y)
abbrev natV (k : Nat) : Dv := .int (k : Int)
end Pu
namespace Pu
open PySem PySem.Spec PyProof.Rows L2 NdefX GenE Sh
theorem srt_by {α β : Type} (g : α -> β) (k : α -> PyData) (l : List α) : Sh.srt (l.map g) (l.map k) = (l.mergeSort (PySem.W.dataLe false k)).map g := by
 unfold Sh.srt
 have e : (l.map g).zip (l.map k) = l.map fun a => (g a, k a) := by rw [List.zip_map']
 rw [e, <- PySem.W.sort_maps (fun a => (g a, k a)) (r := PySem.W.dataLe false k) (l := l) (fun a _ b _ => rfl)]
 rw [List.map_map]
 rfl
theorem sorted_by {α : Type} (g : α -> Dv) (k : α -> PyData) (l : List α) (hd : ∀ a ∈ l, toDD 20 (g a) = some (k a)) (ha : alikeB (l.map k) = true) (hs : ((l.map k).all isTupB || (l.map k).all isFlatB) = true) : dSorted (.lst (l.map g)) = some (true, .lst ((l.mergeSort (PySem.W.dataLe false k)).map g)) := by
 simp only [dSorted, mapO_map hd, ha, hs, and_self, if_true, srt_by]
theorem sortedX_l {xs : List Dv} : dSortedX (.lst xs) = dSorted (.lst xs) := rfl
abbrev pls : Str := Str.ofString "+"
abbrev mns : Str := Str.ofString "-"
/-- a name: small letters, one to eight -/
def Nm (x : Str) : Prop := (∀ c ∈ x.cps.toList, 97 <= c /\ c < 123) /\ 1 <= x.length /\ x.length <= 8
theorem Wd.nm {x : Str} (h : Wd x) : Nm x := ⟨fun c hc => by have := p16_mem.mp (h.1 c hc); omega, h.2⟩
theorem Nm.ok {x : Str} (h : Nm x) : PyData.strOk x = true := by
 show x.cps.all (· < 0x110000) = true
 rw [<- Array.all_toList, List.all_eq_true]
 intro c hc
 have := (h.1 c hc).2
 exact decide_eq_true (by omega)
abbrev SpT := Str × Str
abbrev RowT := Str × List SpT
def specV (p : SpT) : Dv := .tup .trk [.str p.1, .str p.2]
def specD (p : SpT) : PyData := .tuple [.str p.1, .str p.2]
def rowV (r : RowT) : Dv := .tup .trk [.str r.1, .tup .nod (r.2.map specV)]
def rowD (r : RowT) : PyData := .tuple [.str r.1, .tuple (r.2.map specD)]
def stockV (rs : List RowT) : Dv := .tup .nod (rs.map rowV)
def SpOk (p : SpT) : Prop := Nm p.1 /\ (p.2 = pls \/ p.2 = mns)
def RowOk (r : RowT) : Prop := Nm r.1 /\ 1 <= r.2.length /\ r.2.length <= 4 /\ ∀ p ∈ r.2, SpOk p
theorem side_ok {x : Str} (h : x = pls \/ x = mns) : PyData.strOk x = true := by
 rcases h with rfl | rfl <;> decide +kernel
theorem spec_dd {n : Nat} {p : SpT} (h : SpOk p) : toDD (n + 2) (specV p) = some (specD p) := by
 simp only [specV, toDD, mapO, h.1.ok, side_ok h.2, if_true, Option.map_some, specD]
theorem row_dd {n : Nat} {r : RowT} (h : RowOk r) : toDD (n + 4) (rowV r) = some (rowD r) := by
 have e : mapO (toDD (n + 2)) (r.2.map specV) = some (r.2.map specD) := mapO_map fun p hp => spec_dd (h.2.2.2 p hp)
 simp only [rowV, toDD, mapO, h.1.ok, if_true, e, Option.map_some, rowD]
theorem alike_specs : ∀ ps qs : List SpT, PySem.W.alikeAll (ps.map specD) (qs.map specD) = true
 | [], _ => by simp [PySem.W.alikeAll]
 | _ :: _, [] => by simp [PySem.W.alikeAll]
 | p :: ps, q :: qs => by simp [PySem.W.alikeAll, alike_specs ps qs, specD, PySem.W.alike]
theorem alike_rows (rs : List RowT) : alikeB (rs.map rowD) = true := by
 unfold alikeB
 rw [List.all_eq_true]
 intro d hd
 rw [List.all_eq_true]
 intro d' hd'
 obtain ⟨a, _, rfl⟩ := List.mem_map.mp hd
 obtain ⟨b, _, rfl⟩ := List.mem_map.mp hd'
 simp [rowD, PySem.W.alike, PySem.W.alikeAll, alike_specs]
theorem tup_rows (rs : List RowT) : ((rs.map rowD).all isTupB || (rs.map rowD).all isFlatB) = true := by
 rw [Bool.or_eq_true]
 left
 simp only [List.all_map, List.all_eq_true]
 intro r _
 rfl
theorem sorted_rows {rs : List RowT} (h : ∀ r ∈ rs, RowOk r) : dSorted (.lst (rs.map rowV)) = some (true, .lst ((rs.mergeSort (PySem.W.dataLe false rowD)).map rowV)) :=
 sorted_by rowV rowD rs (fun r hr => row_dd (h r hr)) (alike_rows rs) (tup_rows rs)
end Pu
namespace Pu
open PySem PySem.Spec PyProof.Rows L2 NdefX GenE Sh
/-- the ports of a kind: those told last -/
def prt : List RowT -> Str -> Option (List SpT)
 | [], _ => none
 | r :: rs, k => match prt rs k with
  | some ps => some ps
  | none => if k = r.1 then some r.2 else none
abbrev En := Int × Int
def endD (e : En) : PyData := .tuple [.int e.1, .int e.2]
/-- mates -/
def mate (p : SpT) : SpT := (p.1, if p.2 = pls then mns else pls)
end Pu
namespace Pu
open PySem PySem.Spec PyProof.Rows L2 NdefX GenE Sh
section
variable {p : Pe} {u : Pt} {z : Ps} {g : Pg} {vs : List Nat} {QL : List Dv × AEnv -> Prop} {QS : AOut × AEnv -> Prop}
theorem lc_ty {α : Type} (E : AEnv) (c : α -> Dv) (l : List α) (b : α -> Bool) (f : α -> Dv) (hN : l.length <= 1000)
  (he : ∀ x, x ∈ l -> W (g (c x) E) fun a1 => W (u a1) fun r => r.1 = b x /\ if b x = true then W (pK p r.2) (vW fun y a2 => y = f x /\ wipeA a2 vs = E) else wipeA r.2 vs = E)
  (q : QL ((l.filter b).map f, E)) : W (lcA g u p vs (l.map c) E []) QL := by
 refine lc_w (fun rest a acc => a = E /\ ∃ pre post, l = pre ++ post /\ rest = post.map c /\ acc = (pre.filter b).map f) ?_ ?_ (l.map c) E [] ⟨rfl, [], l, rfl, rfl, rfl⟩
 ·rintro d rest a acc ⟨rfl, pre, post, hl, hr, rfl⟩
  cases post with
  | nil => cases hr
  | cons x post =>
   simp only [List.map_cons, List.cons.injEq] at hr
   obtain ⟨rfl, rfl⟩ := hr
   have hx : x ∈ l := by rw [hl]; simp
   have hlp : pre.length <= 1000 := by
    have := congrArg List.length hl
    simp only [List.length_append] at this
    omega
   refine (he x hx).mono fun a1 h1 => h1.mono fun r h2 => ?_
   obtain ⟨h2, h3⟩ := h2
   rw [h2]
   by_cases hb : b x = true
   ·rw [if_pos hb] at h3 ⊢
    refine h3.mono fun ⟨y, a2⟩ h3 => ?_
    cases y with
    | pl j => exact h3.elim
    | v o y =>
     cases o with
     | true => exact h3.elim
     | false =>
      obtain ⟨rfl, h5⟩ := h3
      refine ⟨?_, h5, pre ++ [x], post, by simp [hl], rfl, by simp [hb]⟩
      have h6 : ((pre.filter b).map f).length <= pre.length := by rw [List.length_map]; exact List.length_filter_le _ _
      have : lim = 100000 := rfl
      omega
   ·rw [if_neg hb] at h3 ⊢
    exact ⟨h3, pre ++ [x], post, by simp [hl], rfl, by simp [hb]⟩
 ·rintro a acc ⟨rfl, pre, post, hl, hr, rfl⟩
  cases post with
  | nil =>
   rw [List.append_nil] at hl
   rw [<- hl]
   exact q
  | cons _ _ => cases hr
theorem lc_tm {α : Type} (E : AEnv) (c : α -> Dv) (l : List α) (f : α -> Dv) (hN : l.length <= 1000)
  (he : ∀ x, x ∈ l -> W (g (c x) E) fun a1 => W (u a1) fun r => r.1 = true /\ W (pK p r.2) (vW fun y a2 => y = f x /\ wipeA a2 vs = E))
  (q : QL (l.map f, E)) : W (lcA g u p vs (l.map c) E []) QL := by
 refine lc_ty E c l (fun _ => true) f hN (fun x hx => (he x hx).mono fun a1 h1 => h1.mono fun r h2 => ⟨h2.1, ?_⟩) ?_
 ·rw [if_pos rfl]; exact h2.2
 ·rw [List.filter_eq_self.mpr fun _ _ => rfl]; exact q
/-- I: what holds behind the ones ahead, where the others are still to come -/
theorem for_ty {α : Type} (c : α -> Dv) (l : List α) (I : List α -> List α -> AEnv -> Prop) (hI : ∀ pre x post a, l = pre ++ x :: post -> I pre (x :: post) a -> W (g (c x) a) fun a1 => W (z a1) fun r => match r.1 with
   | .nx => I (pre ++ [x]) post r.2
   | .ct => I (pre ++ [x]) post r.2
   | .bk => QS (.nx, r.2)
   | .rt o v => QS (.rt o v, r.2)) (h0 : ∀ a, I l [] a -> QS (.nx, a)) {a : AEnv} (hs : I [] l a) : W (forA g z (l.map c) a) QS := by
 refine for_w (fun rest a => ∃ pre post, l = pre ++ post /\ rest = post.map c /\ I pre post a) ?_ ?_ _ _ ⟨[], l, rfl, rfl, hs⟩
 ·rintro d rest a ⟨pre, post, hl, hr, hi⟩
  cases post with
  | nil => cases hr
  | cons x post =>
   simp only [List.map_cons, List.cons.injEq] at hr
   obtain ⟨rfl, rfl⟩ := hr
   refine (hI pre x post a hl hi).mono fun a1 h1 => h1.mono fun ⟨o, a2⟩ h2 => ?_
   have hl' : l = (pre ++ [x]) ++ post := by simp [hl]
   cases o with
   | nx => exact ⟨_, _, hl', rfl, h2⟩
   | ct => exact ⟨_, _, hl', rfl, h2⟩
   | bk => exact h2
   | rt o v => exact h2
 ·rintro a ⟨pre, post, hl, hr, hi⟩
  cases post with
  | nil =>
   rw [List.append_nil] at hl
   subst hl
   exact h0 a hi
  | cons _ _ => cases hr
end
theorem w_pSortSet {p : Pe} {a : AEnv} {Q : Av × AEnv -> Prop} : W (pSortSet p a) Q = W (p a) fun r => W (rd r.2 r.1) (lsW fun xs => W (txtsD xs) fun ys => ys.length <= 1000 /\ Q (.v true (.lst (((SetG.gmet ys).mergeSort SetG.sLe).map Dv.str)), r.2)) := by
 unfold pSortSet
 rw [w_bind]
 congr 1; funext r
 rcases h : rd r.2 r.1 with _ | d
 ·simp only [h, w_none]
 ·cases d <;> first | (simp only [h, w_some, w_bind, w_if, ls_l]; done) | (simp only [h, w_some, w_none]; rfl)
theorem o_txts {ks : List Str} {QL : List Str -> Prop} : W (txtsD (ks.map .str)) QL = QL ks := by rw [txtsD_map, w_some]
/-- a slot that is only read -/
def Rdl (s : Sl) (d : Dv) : Prop := s = .bw d \/ s = .fz d
theorem enD_map {α : Type} (c : α -> Dv) (l : List α) : enD (l.map c) = l.zipIdx.map fun x => .tup .trk [natV x.2, c x.1] := by
 unfold enD
 rw [List.mapIdx_eq_zipIdx_map, List.zipIdx_map, List.map_map]
 apply List.map_congr_left
 intro x _
 rfl
def endsOf (ws : List (En × En)) : List En := ws.flatMap fun w => [w.1, w.2]
end Pu
namespace Pu
open PySem PySem.Spec PyProof.Rows L2 NdefX GenE Sh
abbrev Fr := En × SpT
inductive Ed where
 | en (e : En) | no | ix (n : Nat)
theorem rngD_nat {n : Nat} : rngD 0 n = (List.range n).map natV := by
 unfold rngD
 apply List.map_congr_left
 intro k _
 simp
theorem k_ib : kitB "int" "bool" = some false := by decide +kernel
theorem k_tt : kitB "tuple" "tuple" = some true := by decide +kernel
theorem k_lt : kitB "list" "tuple" = some false := by decide +kernel
theorem k_st : kitB "str" "tuple" = some false := by decide +kernel
theorem k_nt : kitB "NoneType" "tuple" = some false := by decide +kernel
end Pu
namespace Pu
open PySem PySem.Spec PyProof.Rows L2 NdefX GenE Sh
abbrev Wi := En × En
def enLe (a b : En) : Bool := PySem.W.dataLe false endD a b
def norm (w : Wi) : Wi := if enLe w.1 w.2 = true then w else (w.2, w.1)
def wireD (w : Wi) : PyData := .tuple [endD w.1, endD w.2]
def sortW (ws : List Wi) : List Wi := ws.mergeSort (PySem.W.dataLe false wireD)
def outE (i : Nat) : En := (-1, (i : Int))
end Pu
namespace Pu
open PySem PySem.Spec PyProof.Rows L2 NdefX GenE Sh
theorem eqvAll_map {α : Type} [DecidableEq α] {k : α -> PyData} (h : ∀ a b, PyData.eqv (k a) (k b) = decide (a = b)) : ∀ l m : List α, PyData.eqvAll (l.map k) (m.map k) = decide (l = m)
 | [], [] => by simp [PyData.eqvAll]
 | [], _ :: _ => by simp [PyData.eqvAll]
 | _ :: _, [] => by simp [PyData.eqvAll]
 | a :: l, b :: m => by
  simp only [List.map_cons, PyData.eqvAll, h, eqvAll_map h l m, List.cons.injEq, Bool.decide_and]
theorem eqv_lst {a b : List PyData} : PyData.eqv (.list a) (.list b) = PyData.eqvAll a b := by simp only [PyData.eqv]
theorem eqv_str {x y : Str} : PyData.eqv (.str x) (.str y) = decide (x = y) := by
 simp only [PyData.eqv]
 rw [Bool.eq_iff_iff]
 simp
theorem dd_lst {α : Type} {f : α -> Dv} {k : α -> PyData} {n : Nat} {l : List α} (h : ∀ a ∈ l, toDD n (f a) = some (k a)) : toDD (n + 1) (.lst (l.map f)) = some (.list (l.map k)) := by
 unfold toDD
 rw [mapO_map h]
 rfl
theorem dd_str {n : Nat} {x : Str} (h : PyData.strOk x = true) : toDD (n + 1) (.str x) = some (.str x) := by
 unfold toDD
 rw [if_pos h]
theorem zip_at {α : Type} {l : List α} {pre post : List (α × Nat)} {x : α} {k : Nat} (h : l.zipIdx = pre ++ (x, k) :: post) : k = pre.length /\ l[pre.length]? = some x := by
 have h1 : l.zipIdx[pre.length]? = some (x, k) := by rw [h]; simp
 rw [List.getElem?_zipIdx] at h1
 obtain ⟨y, hy, e⟩ := Option.map_eq_some_iff.mp h1
 cases e
 exact ⟨by simp, hy⟩
theorem col_tm {p : Pe} {u : Pt} {g : Pg} {α : Type} (J : AEnv -> Prop) (c : α -> Dv) (l : List α) (f : α -> Dv) {QL : List Dv -> Prop} {a0 : AEnv} (hN : l.length <= 1000)
  (he : ∀ x, x ∈ l -> ∀ a, J a -> W (g (c x) a) fun a1 => W (u a1) fun r => r.1 = true /\ W (pK p r.2) (vW fun y a2 => y = f x /\ J a2))
  (h0 : J a0) (q : QL (l.map f)) : W (colA g u p (l.map c) a0 []) QL := by
 refine col_w (fun rest a acc => J a /\ ∃ pre post, l = pre ++ post /\ rest = post.map c /\ acc = pre.map f) ?_ ?_ (l.map c) a0 [] ⟨h0, [], l, rfl, rfl, rfl⟩
 ·rintro d rest a acc ⟨hJ, pre, post, hl, hr, rfl⟩
  cases post with
  | nil => cases hr
  | cons x post =>
   simp only [List.map_cons, List.cons.injEq] at hr
   obtain ⟨rfl, rfl⟩ := hr
   have hx : x ∈ l := by rw [hl]; simp
   have hlp : pre.length <= 1000 := by
    have := congrArg List.length hl
    simp only [List.length_append] at this
    omega
   refine (he x hx a hJ).mono fun a1 h1 => h1.mono fun r h2 => ?_
   obtain ⟨h2, h3⟩ := h2
   rw [if_pos h2]
   refine h3.mono fun ⟨y, a2⟩ h3 => ?_
   cases y with
   | pl j => exact h3.elim
   | v o y =>
    cases o with
    | true => exact h3.elim
    | false =>
     obtain ⟨rfl, h5⟩ := h3
     refine ⟨?_, h5, pre ++ [x], post, by simp [hl], rfl, by simp⟩
     rw [List.length_map]
     have : lim = 100000 := rfl
     omega
 ·rintro a acc ⟨hJ, pre, post, hl, hr, rfl⟩
  cases post with
  | nil =>
   rw [List.append_nil] at hl
   rw [<- hl]
   exact q
  | cons _ _ => cases hr
section
variable {α : Type} [DecidableEq α] {f f' : α -> Dv} {k : α -> PyData} {t t' : Tk} {l m : List α} {Q : Bool × Dv -> Prop}
theorem o_eqL (hk : ∀ a b, PyData.eqv (k a) (k b) = decide (a = b)) (hl : ∀ a ∈ l, toDD 19 (f a) = some (k a)) (hm : ∀ a ∈ m, toDD 19 (f' a) = some (k a)) : W (dEq (.lst (l.map f)) (.lst (m.map f'))) Q = Q (false, .bl (decide (l = m))) := by
 rw [o_eq, dd_lst hl, dd_lst hm, w_some, w_some, eqv_lst, eqvAll_map hk]
end
end Pu
namespace Pu
open PySem PySem.Spec PyProof.Rows L2 NdefX GenE Sh
def PWa0 := (And.intro (And.intro (And.intro (And.intro (And.intro (And.intro (And.intro @w_some (And.intro @w_pVar @s_fz)) (And.intro @s_own (And.intro @s_io @s_bw))) (And.intro (And.intro @s_hd (And.intro @w_pC @w_pFz)) (And.intro (And.intro @z_fz @z_own) (And.intro @w_pK @k_v)))) (And.intro (And.intro (And.intro @r_v (And.intro @r_pl @pl_fz)) (And.intro (And.intro @pl_own @pl_io) (And.intro @pl_bw @pl_hd))) (And.intro (And.intro @w_p1 (And.intro @w_p2 @w_pM1)) (And.intro (And.intro @w_p3 @bl_bl) (And.intro @bo_bl @w_pAnd))))) (And.intro (And.intro (And.intro (And.intro @w_pOr (And.intro @w_pNot @in_int)) (And.intro (And.intro @w_pNeg @w_pIsi) (And.intro @w_qV @w_qAn))) (And.intro (And.intro @w_qO (And.intro @w_qN @w_qYs)) (And.intro (And.intro @w_pIf @w_paNil) (And.intro @w_paCons @w_pT)))) (And.intro (And.intro (And.intro @w_pL (And.intro @kept_nil @kept_cons)) (And.intro (And.intro @w_poN @w_poS) (And.intro @w_pSl @w_pDK))) (And.intro (And.intro @w_pDT (And.intro @w_mutL @m_own)) (And.intro (And.intro @m_io @v_v) (And.intro @w_pApp @w_pPop)))))) (And.intro (And.intro (And.intro (And.intro (And.intro @w_pExt (And.intro @ls_l @w_pgN)) (And.intro @w_pgsNil (And.intro @w_pgsCons @w_pgT))) (And.intro (And.intro @w_pgSb (And.intro @w_zNil @w_zCons)) (And.intro (And.intro @t_nx @t_rt) (And.intro @t_bk @t_ct)))) (And.intro (And.intro (And.intro @w_zIf (And.intro @w_zRet @ret_v)) (And.intro (And.intro @w_zRetV @rv_fz) (And.intro @rv_own @w_zEx))) (And.intro (And.intro @w_zSet (And.intro @set_t @set_f)) (And.intro (And.intro @w_zAsg @w_zDput) (And.intro @dp_dic @dp_dit))))) (And.intro (And.intro (And.intro (And.intro @w_zFor (And.intro @w_pLc @w_pAllG)) (And.intro (And.intro @w_pColG @w_runN) (And.intro @w_runS @on_rt))) (And.intro (And.intro @on_nx (And.intro @oi_rt @oi_nx)) (And.intro (And.intro @al_fz @al_own) (And.intro @al_io @al_bw)))) (And.intro (And.intro (And.intro @al_hd (And.intro @a_f @a_t)) (And.intro (And.intro @a_pl @as_n) (And.intro @as_c @w_callN))) (And.intro (And.intro @w_callS (And.intro @cj_pl @cs_own)) (And.intro (And.intro @cs_io @w_piSeq) (And.intro @sq_tup @sq_str))))))) (And.intro (And.intro (And.intro (And.intro (And.intro (And.intro @sq_lst (And.intro @sq_fro @sq_pl)) (And.intro @ps_own (And.intro @ps_io @ps_bw))) (And.intro (And.intro @ps_hd (And.intro @w_piEnum @en_tup)) (And.intro (And.intro @en_lst @en_pl) (And.intro @ep_own @ep_bw)))) (And.intro (And.intro (And.intro @ep_hd (And.intro @unh_n @unh_s)) (And.intro (And.intro @w_pSortSet @o_txts) (And.intro @w_piR1 @w_piR2))) (And.intro (And.intro @w_piR3 (And.intro @o_addI @o_sub)) (And.intro (And.intro @o_le @o_gt) (And.intro @o_ge @o_ltI))))) (And.intro (And.intro (And.intro (And.intro @o_isB (And.intro @o_isnB @o_ixT)) (And.intro (And.intro @o_ixL @o_ixF) (And.intro @o_slT @o_slL))) (And.intro (And.intro @o_lenT (And.intro @o_lenL @o_lenF)) (And.intro (And.intro @o_listT @o_listL) (And.intro @o_tupT @o_tupL)))) (And.intro (And.intro (And.intro @o_at0 (And.intro @o_at1 @o_dg)) (And.intro (And.intro @o_din @o_dnotin) (And.intro @o_lookK @o_lookT))) (And.intro (And.intro @o_keyS (And.intro @o_keyI @o_tkey2)) (And.intro (And.intro @ty_tup @ty_lst) (And.intro @ty_int @ty_bl)))))) (And.intro (And.intro (And.intro (And.intro (And.intro @ty_str (And.intro @ty_non @fb_s)) (And.intro (And.intro @fb_0 @co_none) (And.intro @co_fz @co_own))) (And.intro (And.intro @co_bw (And.intro @fzB_c @fzB_n)) (And.intro (And.intro @fo_s @fo_fz) (And.intro @fo_none @true_and)))) (And.intro (And.intro (And.intro @and_true (And.intro @Bool.not_true @Bool.not_false)) (And.intro (And.intro @Bool.false_eq_true @Bool.and_true) (And.intro @Bool.true_and @w_pSet0))) (And.intro (And.intro @w_setA (And.intro @st_own @w_pSAdd)) (And.intro (And.intro @o_sin @o_snotin) (And.intro @w_pD1 @w_pDGet2))))) (And.intro (And.intro (And.intro (And.intro @d_dic (And.intro @d_dit @d_fdi)) (And.intro (And.intro @d_fdt @w_pLockV) (And.intro @lk_dic @lk_dit))) (And.intro (And.intro @lk_fdi (And.intro @lk_fdt @w_piKeys)) (And.intro (And.intro @ky_fdi @ky_fdt) (And.intro @o_listD @w_zAug)))) (And.intro (And.intro (And.intro @au_fz (And.intro @w_pIns @w_callT)) (And.intro (And.intro @ct_v @tm_f) (And.intro @tm_pl @g_dic))) (And.intro (And.intro @g_dit (And.intro @g_fdi @g_fdt)) (And.intro (And.intro @g_tup @g_lst) (And.intro @o_lookFK @o_lookFT))))))))
theorem PWa : type_of% PWa0 := PWa0
def PWl0 := (And.intro @List.map_cons.{0,0} (And.intro @List.map_nil.{0,0} (And.intro @List.length_cons.{0} (And.intro @List.length_nil.{0} (And.intro @List.cons_append.{0} (And.intro @List.nil_append.{0} (And.intro @List.set_cons_zero.{0} (And.intro @List.set_cons_succ.{0} (And.intro @List.getElem?_cons_zero.{0} (And.intro @List.getElem?_cons_succ.{0} (And.intro @if_true.{1} (And.intro @if_false.{1} (And.intro @List.eraseIdx_cons_zero.{0} (And.intro @List.eraseIdx_cons_succ.{0} (And.intro @List.eraseIdx_nil.{0} (And.intro @List.all_cons.{0} @List.all_nil.{0}))))))))))))))))
theorem PWl : type_of% PWl0 := PWl0
end Pu
local macro_rules | `(tactic| simp only [va] $[$l]?) => `(tactic| simp only [Pu.PWa, Pu.PWl, Pu.Sl.val, Pu.Sl.put, Pu.Sl.mut, Pu.Sl.pin, Pu.wipeA, Pu.unwipe, List.replicate, Nat.reduceAdd, Nat.reduceSub, Nat.reduceLeDiff, Pu.notPl, bne, Nat.reduceBEq, Int.reduceNeg] $[$l]?)
local macro_rules | `(tactic| simp only [va, $ls,*] $[$l]?) => `(tactic| simp only [Pu.PWa, Pu.PWl, Pu.Sl.val, Pu.Sl.put, Pu.Sl.mut, Pu.Sl.pin, Pu.wipeA, Pu.unwipe, List.replicate, Nat.reduceAdd, Nat.reduceSub, Nat.reduceLeDiff, Pu.notPl, bne, Nat.reduceBEq, Int.reduceNeg, $ls,*] $[$l]?)
namespace Pu
open PySem PySem.Spec PyProof.Rows L2 NdefX GenE Sh
def PWc0 := (And.intro @w_piItems (And.intro @it_fdi (And.intro @it_fdt (And.intro @w_pExtX (And.intro @its_l (And.intro @its_t (And.intro @w_pLenSetX (And.intro @ls_t @o_mulL))))))))
theorem PWc : type_of% PWc0 := PWc0
end Pu
namespace Pu
open PySem PySem.Spec PyProof.Rows L2 NdefX GenE Sh
def PWd0 := (And.intro @w_pCp (And.intro @w_pbPut (And.intro @put_dic (And.intro @put_dit (And.intro @w_pbApp @w_pbTwo)))))
theorem PWd : type_of% PWd0 := PWd0
end Pu
local macro_rules | `(tactic| simp only [vd] $[$l]?) => `(tactic| simp only [Pu.PWa, Pu.PWc, Pu.PWd, Pu.PWl, Pu.Sl.val, Pu.Sl.put, Pu.Sl.mut, Pu.Sl.pin, Pu.wipeA, Pu.unwipe, List.replicate, Nat.reduceAdd, Nat.reduceSub, Nat.reduceLeDiff, Pu.notPl, bne, Nat.reduceBEq, Int.reduceNeg] $[$l]?)
local macro_rules | `(tactic| simp only [vd, $ls,*] $[$l]?) => `(tactic| simp only [Pu.PWa, Pu.PWc, Pu.PWd, Pu.PWl, Pu.Sl.val, Pu.Sl.put, Pu.Sl.mut, Pu.Sl.pin, Pu.wipeA, Pu.unwipe, List.replicate, Nat.reduceAdd, Nat.reduceSub, Nat.reduceLeDiff, Pu.notPl, bne, Nat.reduceBEq, Int.reduceNeg, $ls,*] $[$l]?)
namespace Pu
open PySem PySem.Spec PyProof.Rows L2 NdefX GenE Sh
section
variable {a : AEnv} {Q : Av × AEnv -> Prop} {QS : AOut × AEnv -> Prop} {p : Pe} {z : Ps} {o : Bool} {c n : Str} {ds : List Dv} {t : Tk} {xs : List Dv} {i kk ka : Nat}
def nxW (Q : Av × AEnv -> Prop) : Av × AEnv -> Prop
 | (.v _ (.exc _ _ _), _) => False
 | (.v o d, a) => Q (.v o d, a)
 | _ => False
theorem w_pNx : W (pNx p a) Q = W (p a) (nxW Q) := by
 unfold pNx
 rw [w_bind]
 congr 1; funext ⟨x, a1⟩
 cases x with
 | pl j => simp only [w_none]; rfl
 | v o d => cases d <;> simp [Dv.fly, w_some, w_none, nxW]
theorem nx_tup : nxW Q (.v o (.tup t xs), a) = Q (.v o (.tup t xs), a) := rfl
theorem nx_lst : nxW Q (.v o (.lst xs), a) = Q (.v o (.lst xs), a) := rfl
theorem nx_non : nxW Q (.v o .non, a) = Q (.v o .non, a) := rfl
theorem nx_bl {b : Bool} : nxW Q (.v o (.bl b), a) = Q (.v o (.bl b), a) := rfl
theorem nx_int {j : Int} : nxW Q (.v o (.int j), a) = Q (.v o (.int j), a) := rfl
theorem nx_str {x : Str} : nxW Q (.v o (.str x), a) = Q (.v o (.str x), a) := rfl
theorem w_zRaiseM : W (zRaiseM c a) QS = QS (.rt false (.exc c "" []), a) := w_some
theorem w_zRaiseF : W (zRaiseF c n p a) QS = W (pK p a) (vW fun d a1 => QS (.rt false (.exc c n [d]), a1)) := by
 unfold zRaiseF
 rw [w_bind]
 congr 1; funext ⟨x, a1⟩
 cases x with
 | pl j => simp only [w_none]; rfl
 | v o d => cases o <;> simp only [w_some, w_none, v_v] <;> rfl
def sxW (i : Nat) (QS : AOut × AEnv -> Prop) : Av × AEnv -> Prop
 | (.v false (.exc c n ds), a) => QS (.rt false (.exc c n ds), a)
 | (.v true (.exc _ _ _), _) => False
 | r => setW i QS r
theorem w_zSetX : W (zSetX i p a) QS = W (p a) (sxW i QS) := by
 unfold zSetX zFly
 rw [w_bind]
 rcases h : p a with _ | ⟨x, a1⟩
 ·simp only [w_none]
 ·simp only [w_some]
  cases x with
  | pl j => simp [flyA, w_zSet, w_pNx, h, w_some, nxW, sxW, setW]
  | v o d => cases o <;> cases d <;> simp [flyA, w_zSet, w_pNx, h, w_some, nxW, sxW, setW]
theorem sx_exc : sxW i QS (.v false (.exc c n ds), a) = QS (.rt false (.exc c n ds), a) := rfl
theorem sx_tup : sxW i QS (.v o (.tup t xs), a) = setW i QS (.v o (.tup t xs), a) := by cases o <;> rfl
theorem sx_lst : sxW i QS (.v o (.lst xs), a) = setW i QS (.v o (.lst xs), a) := by cases o <;> rfl
theorem sx_non : sxW i QS (.v o .non, a) = setW i QS (.v o .non, a) := by cases o <;> rfl
theorem sx_bl {b : Bool} : sxW i QS (.v o (.bl b), a) = setW i QS (.v o (.bl b), a) := by cases o <;> rfl
def axW (g : Pg) (QS : AOut × AEnv -> Prop) : Av × AEnv -> Prop
 | (.v false (.exc c n ds), a) => QS (.rt false (.exc c n ds), a)
 | (.v true (.exc _ _ _), _) => False
 | (.v _ d, a) => W (g d a) fun a2 => QS (.nx, a2)
 | _ => False
theorem w_zAsgX {g : Pg} : W (zAsgX p g a) QS = W (p a) (axW g QS) := by
 unfold zAsgX zFly
 rw [w_bind]
 rcases h : p a with _ | ⟨x, a1⟩
 ·simp only [w_none]
 ·simp only [w_some]
  cases x with
  | pl j => simp [flyA, w_zAsg, w_pK, w_pNx, h, w_some, nxW, axW]
  | v o d => cases o <;> cases d <;> simp [flyA, w_zAsg, w_pK, w_pNx, h, w_some, nxW, axW, kW, vW]
theorem ax_exc {g : Pg} : axW g QS (.v false (.exc c n ds), a) = QS (.rt false (.exc c n ds), a) := rfl
theorem ax_tup {g : Pg} : axW g QS (.v o (.tup t xs), a) = W (g (.tup t xs) a) fun a2 => QS (.nx, a2) := by cases o <;> rfl
def trW (cs : Str -> Option Bool) (q : Ph) (QS : AOut × AEnv -> Prop) : AOut × AEnv -> Prop
 | (.rt false (.exc c n ds), a) => W (cs c) fun b => if b = true then W (q c n ds a) QS else QS (.rt false (.exc c n ds), a)
 | r => QS r
theorem w_zTry {cs : Str -> Option Bool} {q : Ph} : W (zTry z cs q a) QS = W (z a) (trW cs q QS) := by
 unfold zTry
 rw [w_bind]
 congr 1; funext ⟨x, a1⟩
 cases x with
 | rt o d =>
  cases o with
  | true => simp only [w_some]; rfl
  | false =>
   cases d with
   | exc c n ds =>
    simp only [trW]
    rcases h : cs c with _ | b
    ·simp only [w_none]
    ·cases b <;> simp [w_some]
   | _ => simp only [w_some]; rfl
 | _ => simp only [w_some]; rfl
theorem tr_exc {cs : Str -> Option Bool} {q : Ph} : trW cs q QS (.rt false (.exc c n ds), a) = W (cs c) fun b => if b = true then W (q c n ds a) QS else QS (.rt false (.exc c n ds), a) := rfl
theorem tr_nx {cs : Str -> Option Bool} {q : Ph} : trW cs q QS (.nx, a) = QS (.nx, a) := rfl
theorem tr_tup {cs : Str -> Option Bool} {q : Ph} : trW cs q QS (.rt o (.tup t xs), a) = QS (.rt o (.tup t xs), a) := by cases o <;> rfl
theorem tr_lst {cs : Str -> Option Bool} {q : Ph} : trW cs q QS (.rt o (.lst xs), a) = QS (.rt o (.lst xs), a) := by cases o <;> rfl
theorem w_qNone : W (qNone c n ds a) QS = QS (.rt false .non, a) := w_some
theorem w_qKinds {kb : Str -> Option (List Bool)} : W (qKinds i kk kb c n ds a) QS = W (kb c) fun bs => (i < a.length /\ freeB a i = true) /\ freeB (a.set i none) kk = true /\ QS (.nx, (a.set i none).set kk (some (.own (.lst (bs.map .bl))))) := by
 unfold qKinds
 rw [w_bind]
 congr 1; funext bs
 rw [w_ite]
 by_cases h : i < a.length /\ freeB a i = true
 ·rw [if_pos h]
  simp only [h, w_zSet, pNewBs, w_some, setW, true_and, and_self]
 ·rw [if_neg h]
  simp only [w_none, h, false_and]
theorem w_qKindsAt {kb : Str -> Option (List Bool)} {fld : Str} {d : Dv} : W (qKindsAt i kk ka fld kb c n (d :: ds) a) QS = W (kb c) fun bs => (n = fld /\ i < a.length /\ freeB a i = true) /\ freeB (a.set i none) kk = true /\ freeB ((a.set i none).set kk (some (.own (.lst (bs.map .bl))))) ka = true /\
  QS (.nx, ((a.set i none).set kk (some (.own (.lst (bs.map .bl))))).set ka (some (.fz d))) := by
 unfold qKindsAt
 rw [w_bind]
 congr 1; funext bs
 simp only []
 rw [w_ite]
 by_cases h : n = fld /\ i < a.length /\ freeB a i = true
 ·rw [if_pos h]
  simp only [w_bind, w_map, w_zSet, pNewBs, w_some, setW, pgN, w_if]
  simp [h]
 ·rw [if_neg h]
  simp only [w_none, h, false_and]
end
def PWe0 := (And.intro @w_pNx (And.intro @nx_tup (And.intro @nx_lst (And.intro @nx_non (And.intro @nx_bl (And.intro @nx_int (And.intro @nx_str (And.intro @w_zRaiseM (And.intro @w_zRaiseF (And.intro @w_zSetX (And.intro @sx_exc (And.intro @sx_tup (And.intro @sx_lst (And.intro @sx_non (And.intro @sx_bl (And.intro @w_zAsgX (And.intro @ax_exc (And.intro @ax_tup
 (And.intro @w_zTry (And.intro @tr_exc (And.intro @tr_nx (And.intro @tr_tup (And.intro @tr_lst (And.intro @w_qNone (And.intro @w_qKinds @w_qKindsAt)))))))))))))))))))))))))
theorem PWe : type_of% PWe0 := PWe0
end Pu
local macro_rules | `(tactic| simp only [ve] $[$l]?) => `(tactic| simp only [Pu.PWa, Pu.PWc, Pu.PWd, Pu.PWe, Pu.PWl, Pu.Sl.val, Pu.Sl.put, Pu.Sl.mut, Pu.Sl.pin, Pu.wipeA, Pu.unwipe, List.replicate, Nat.reduceAdd, Nat.reduceSub, Nat.reduceLeDiff, Pu.notPl, bne, Nat.reduceBEq, Int.reduceNeg] $[$l]?)
local macro_rules | `(tactic| simp only [ve, $ls,*] $[$l]?) => `(tactic| simp only [Pu.PWa, Pu.PWc, Pu.PWd, Pu.PWe, Pu.PWl, Pu.Sl.val, Pu.Sl.put, Pu.Sl.mut, Pu.Sl.pin, Pu.wipeA, Pu.unwipe, List.replicate, Nat.reduceAdd, Nat.reduceSub, Nat.reduceLeDiff, Pu.notPl, bne, Nat.reduceBEq, Int.reduceNeg, $ls,*] $[$l]?)
namespace Sh
open PySem PySem.Spec PyProof.Rows L2 NdefX GenE
open GxR (TabB TabG Tabbed)
theorem excIB_ok {K : PySem.W.Frag} {D : Addr} (h : excIB K D = true) : ExcI K D := by
 unfold excIB at h
 simp only [Bool.and_eq_true, decide_eq_true_eq] at h
 obtain ⟨h1, h2, h3, h4, h5, h6, h7, h8, h9⟩ := h
 exact ⟨h1, h2, h3, h4, h5, h6, h7, h8, h9⟩
theorem kbs_of {K : PySem.W.Frag} {mg : Str -> Option Value} {D : Addr} (hv : mg "ValueError" = none) : ∀ {ns : List Str} {bs : List Bool}, (∀ c ∈ ns, c ≠ ("ValueError" : Str) -> mg c = some (.ref (He.ga K c))) -> kits K D ns = bs.map some -> KBs K mg D ns bs
 | [], [], _, _ => .nil
 | [], b :: bs, _, h => nomatch h
 | c :: ns, [], _, h => nomatch h
 | c :: ns, b :: bs, hm, h => by
  have h1 : PySem.W.kitOne K (.ref D) (cvOf K c) = some b := (List.cons.inj h).1
  have h2 : kits K D ns = bs.map some := (List.cons.inj h).2
  refine .cons ⟨cvOf K c, ?_, h1⟩ (kbs_of hv (fun c' hc => hm c' (List.mem_cons_of_mem _ hc)) h2)
  unfold cvOf
  by_cases e : c = ("ValueError" : Str)
  ·rw [if_pos e]
   subst e
   exact .inr ⟨_, rfl, hv, PyProof.Rows.Boot.«ValueError», by decide⟩
  ·rw [if_neg e]
   exact .inl ⟨_, rfl, hm c List.mem_cons_self e⟩
/-- a table of answers, by the exception's class -/
def kbOf (t : KbT) (c : Str) : Option (List Bool) := (t.lookup c).map fun r => r.1 ++ r.2.1 ++ r.2.2
theorem lookup_mem {α : Type} : ∀ {l : List (Str × α)} {c : Str} {x : α}, l.lookup c = some x -> (c, x) ∈ l
 | [], _, _, h => nomatch h
 | (k, y) :: l, c, x, h => by
  by_cases e : c = k
  ·subst e
   simp [List.lookup] at h
   subst h
   exact List.mem_cons_self
  ·have e2 : (c == k) = false := by simpa using e
   simp [List.lookup, e2] at h
   exact List.mem_cons_of_mem _ (lookup_mem h)
theorem kbB_ok {K : PySem.W.Frag} {mg : Str -> Option Value} {t : KbT} {n1 n2 n3 : List Str} (h : kbB K t n1 n2 n3 = true) (hv : mg "ValueError" = none) (hm : ∀ c ∈ n1 ++ n2 ++ n3, c ≠ ("ValueError" : Str) -> mg c = some (.ref (He.ga K c))) (ht : ∀ r ∈ t, mg r.1 = some (.ref (He.ga K r.1))) :
  ∀ c bs, kbOf t c = some bs -> ∃ D, mg c = some (.ref D) /\ ExcI K D /\ ∃ b1 b2 b3, bs = b1 ++ b2 ++ b3 /\ KBs K mg D n1 b1 /\ KBs K mg D n2 b2 /\ KBs K mg D n3 b3 /\ b1.length + b2.length + b3.length <= 100 := by
 intro c bs e
 obtain ⟨⟨b1, b2, b3⟩, hl, rfl⟩ := Option.map_eq_some_iff.mp e
 have hmem := lookup_mem hl
 have hr := List.all_eq_true.mp h _ hmem
 simp only [Bool.and_eq_true, decide_eq_true_eq] at hr
 obtain ⟨h1, h2, h3, h4, h5⟩ := hr
 exact ⟨_, ht _ hmem, excIB_ok h1, b1, b2, b3, rfl, kbs_of hv (fun c hc => hm c (by simp [hc])) h2, kbs_of hv (fun c hc => hm c (by simp [hc])) h3, kbs_of hv (fun c hc => hm c (by simp [hc])) h4, h5⟩
theorem xfaB_ok {K : PySem.W.Frag} {mg : Str -> Option Value} {t : KbT} {fld : Str} (h : xfaB K t fld = true) (ht : ∀ r ∈ t, mg r.1 = some (.ref (He.ga K r.1))) : XfA K mg fld (kbOf t) := by
 refine ⟨fun c bs D e hD => ?_⟩
 obtain ⟨r, hl, rfl⟩ := Option.map_eq_some_iff.mp e
 have hmem := lookup_mem hl
 have hr := List.all_eq_true.mp h _ hmem
 simp only [Bool.and_eq_true, decide_eq_true_eq] at hr
 have := ht _ hmem
 rw [hD] at this
 cases this
 exact ⟨xfB_ok hr.1, hr.2⟩
/-- which classes a clause catches -/
def csOf (t : CsT) (c : Str) : Option Bool := t.lookup c
theorem csB_ok {K : PySem.W.Frag} {mg : Str -> Option Value} {x : Str} {t : CsT} (h : csB K x t = true) (hx : mg x = some (.ref (He.ga K x))) (ht : ∀ r ∈ t, mg r.1 = some (.ref (He.ga K r.1))) : Cat K mg x (csOf t) := by
 refine ⟨_, hx, fun c b e cls hc => ?_⟩
 have hmem := lookup_mem e
 have hr := List.all_eq_true.mp h _ hmem
 simp only [decide_eq_true_eq] at hr
 have := ht _ hmem
 rw [hc] at this
 cases this
 exact hr
theorem excM_of {K : PySem.W.Frag} {mg : Str -> Option Value} {c : Str} (c1 : (He.Fa.exc c).ok K = true) (hm : mg c = some (.ref (He.ga K c))) : ExcM K mg c := by
 obtain ⟨h1, h2, h3, h4⟩ := He.exc_ok c1
 exact ⟨_, hm, h1, h2, h3, h4⟩
theorem fldB_ok {K : PySem.W.Frag} {c n : Str} (h : fldB K c n = true) : OexC K (He.ga K c) /\ PySem.W.findIn K (.ref (He.ga K c)) n = some none /\ PySem.W.findIn K (.ref (He.ga K c)) "__init__" = some (some (.ref (He.ma K (He.ga K c) "__init__"))) /\ PySem.W.typeIn K (.ref (He.ma K (He.ga K c) "__init__")) = some (.type "function") := by
 unfold fldB at h
 simp only [Bool.and_eq_true, decide_eq_true_eq] at h
 obtain ⟨h1, h2, h3, h4⟩ := h
 exact ⟨oexB_ok h1, h2, h3, h4⟩
/-- a class's method -/
theorem top_famX {P : Program} {w : World} {K : PySem.W.Frag} {mg : Str -> Option Value} {base : Heap} {T : Tb} {hTw : T.w = w} {N : List Str} {qual : Str} {scope : Scope} {f : Addr} {cdv : Value} {k : Nat} : Top (famX P w K mg base T hTw N qual scope f cdv k) := ⟨fun _ => rfl, fun _ => rfl⟩
end Sh
namespace Sh
open PySem PySem.Spec PyProof.Rows L2 NdefX GenE
end Sh
namespace Pu
open PySem PySem.Spec PyProof.Rows L2 NdefX GenE Sh
end Pu
namespace Sh
open PySem PySem.Spec PyProof.Rows L2 NdefX GenE
end Sh
namespace Pu
open PySem PySem.Spec PyProof.Rows L2 NdefX GenE Sh
end Pu
namespace Sh
open PySem PySem.Spec PyProof.Rows L2 NdefX GenE
end Sh
namespace Pu
open PySem PySem.Spec PyProof.Rows L2 NdefX GenE Sh
end Pu
namespace Sh
open PySem PySem.Spec PyProof.Rows L2 NdefX GenE
end Sh
namespace Pu
open PySem PySem.Spec PyProof.Rows L2 NdefX GenE Sh
end Pu
namespace Sh
open PySem PySem.Spec PyProof.Rows L2 NdefX GenE
end Sh
namespace Pu
open PySem PySem.Spec PyProof.Rows L2 NdefX GenE Sh
end Pu
namespace Sh
open PySem PySem.Spec PyProof.Rows L2 NdefX GenE
end Sh
namespace Pu
open PySem PySem.Spec PyProof.Rows L2 NdefX GenE Sh
end Pu
namespace Sh
open PySem PySem.Spec PyProof.Rows L2 NdefX GenE
open GxR (TabB TabG Tabbed)
abbrev ClT := Value × (Addr -> Value -> Option Addr -> TS)
/-- the ends behind a suite: the clause's name is gone -/
def gone (i : Nat) (D : Ends) : Ends :=
 ⟨fun σ H => D.nx (σ.set i none) H, D.rt, fun σ H => D.bk (σ.set i none) H, fun σ H => D.ct (σ.set i none) H⟩
/-- the first clause that catches it is met, or it flies on -/
def wNms (K : PySem.W.Frag) (i : Nat) (W : WX) (D : Ends) : List ClT -> WX
 | [] => W
 | q :: r => fun cls d σ H => ∃ b, PySem.W.exmOne K cls q.1 = some b /\
     (b = true -> ∀ a, H a = none -> q.2 a cls d (gone i D) (σ.set i (some (.ref a))) H) /\
     (b = false -> wNms K i W D r cls d σ H)
/-- clauses with one name n, their suites run -/
inductive Nms (X : Cx) (n : Str) : List ExceptHandler -> List ClT -> Prop
 | nil : Nms X n [] []
 | cons {x : Str} {q : ClT} {b₀ : Stmt} {bs : List Stmt} {p p' : Pos} {hs : List ExceptHandler} {l : List ClT} :
   Names X x q.1 ->
   (∀ a oe cls d pn, L2N.Zn cls d oe -> (∃ vs, oe.data = .fields vs) -> PSs (X.suite a ((a, oe) :: pn)) (b₀ :: bs) (q.2 a cls d)) ->
   Nms X n hs l -> Nms X n (.ExceptHandler (some (.Name x p)) (some n) (b₀ :: bs) p' :: hs) (q :: l)
/-- what the frame that catches it knows -/
structure Cgt (X : Cx) (pins : List (Addr × Obj)) (B : Heap) (a : Addr) (cls : Value) (d : Option Addr) (σ : L2.St) (H : Hp) (sI z : Shared) : Prop where
 inv : L2.Inv X pins σ H sI
 nb : ∀ b o, sI.heap.get? b = some o -> b ∉ frs X.stack -> B.get? b = some o
 fl : HandSPX.FlyingZ B (X.env :: X.outer) a (L2N.Zn cls d) z.heap
 up : sI.heap.UpToSlots z.heap
 os : z.os = sI.os
 ag : AllBare z.gens
 na : H a = none
section
variable {X : Cx} {pins : List (Addr × Obj)} {B : Heap} {a : Addr} {cls : Value} {d : Option Addr} {σ : L2.St} {H : Hp} {sI z : Shared}
theorem Cgt.here (c : Cgt X pins B a cls d σ H sI z) : L2.Inv X pins σ H z := c.inv.landed c.nb c.fl.1 c.up c.os c.ag
theorem Cgt.held (c : Cgt X pins B a cls d σ H sI z) (hf : X.env.frame = some X.env.locals) :
  ∃ oe vs, z.heap.get? a = some oe /\ L2N.Zn cls d oe /\ oe.data = .fields vs /\ L2.Inv (X.suite a ((a, oe) :: (X.pn ++ pins))) [] σ H z := by
 obtain ⟨oe, vs, g, hz, hd⟩ := c.fl.there
 have off : a ∉ frs (X.env :: X.outer) := by
  intro m
  obtain ⟨_, o, g', hn⟩ := c.fl.2.2.1.mem m
  rw [g] at g'
  cases g'
  exact hn vs hd
 have here : X.env.locals ∈ frs (X.env :: X.outer) := List.mem_filterMap.mpr ⟨_, .head _, hf⟩
 refine ⟨oe, vs, g, hz, hd, c.here.suite g hd c.na (fun e => off (e ▸ here)) fun m => ?_⟩
 obtain ⟨v, hv, e⟩ := List.mem_filterMap.mp m
 exact off (List.mem_filterMap.mpr ⟨v, .tail _ hv, e⟩)
/-- no clause is left -/
theorem Cgt.onward {W : WX} {D : Ends} (c : Cgt X pins B a cls d σ H sI z) (hs : X.stack = X.env :: X.outer) (hf : X.env.frame = some X.env.locals) (tk : L2N.Takes X W) (w : W cls d σ H) :
  wpAny (model X.prog X.w) X.A (handleBy (.ref a) X.env []) (SP X pins D) X.xe z := by
 apply wpAny_handleBy_nil
 have ⟨_, _, _, oe, vs, T, _, _, g, _, hd, h1, _⟩ := c.fl
 have thrown : wpAny (model X.prog X.w) X.A (setFlight (.ref a) X.env.frame) (fun _ s => wpAny (model X.prog X.w) X.A (throw (.ref a) : Sem Flow) (SP X pins D) X.xe s) X.xe z := by
  rw [hf]
  apply HandSPX.setFlight_upZ c.fl
  intro h' held up'
  apply wpAny_throw
  apply tk
  exact ⟨a, B, sI, pins, σ, H, cls, d, rfl, c.inv, c.nb, c.up.trans up', .inr (.inr (hs ▸ held)), c.na, c.os, c.ag, w⟩
 unfold PySem.passOn
 apply wpAny_bind
 apply wpAny_field g hd h1
 have ne : ¬ ((Value.ref T == Value.none) = true) := by simp
 rw [if_neg ne]
 first
  | exact wpAny_bind thrown
  | exact wpAny_bind (wpAny_pure (wpAny_bind thrown))
theorem Cgt.clauses {W : WX} {D : Ends} {i : Nat} {n : Str} (c : Cgt X pins B a cls d σ H sI z) (hs : X.stack = X.env :: X.outer) (hf : X.env.frame = some X.env.locals) (hN : X.N.Nodup) (hi : X.N[i]? = some n) (hl : X.env.kindOf n = some .local) (tk : L2N.Takes X W) :
  ∀ {hds : List ExceptHandler} {l : List ClT}, Nms X n hds l -> wNms X.K i W D l cls d σ H -> wpAny (model X.prog X.w) X.A (handleBy (.ref a) X.env hds) (SP X pins D) X.xe z
 | _, _, .nil, w => c.onward hs hf tk w
 | _, _, .cons (x := x) (q := q) (p := p) (p' := p') nm su rest, ⟨b, hb, yes, no⟩ => by
  have more := fun e => c.clauses hs hf hN hi hl tk (D := D) rest (no e)
  obtain ⟨oe, vs, g, hz, hd, S⟩ := c.held hf
  have ty : PySem.W.Looks (model X.prog X.w) z.heap (typeOf (.ref a)) cls := fun A Q E s k q => wpAny_typeOf_ref (k _ _ g) (by rw [hz.1]; exact q)
  have mt := PySem.W.exm_one (M := model X.prog X.w) S.kIn ty hb
  refine wpAny_handleBy_cons (codeAny_handlers_test ?_) (fun e => by cases e)
  have named : ∀ {Q E : Value -> Shared -> Prop}, Q q.1 z -> wpAny (model X.prog X.w) (X.A.mark (some (.ref a))) (eval (.Name x p) X.env) Q E z := by
   intro Q E k
   obtain ⟨gl, db, m | ⟨m, bb, nn⟩⟩ := nm
   ·exact ld_glob (X := X.suite a ((a, oe) :: (X.pn ++ pins))) S gl m k db
   ·exact ld_blt (X := X.suite a ((a, oe) :: (X.pn ++ pins))) S gl m bb k nn db
  apply named
  apply mt.here
  cases b with
  | false => exact more rfl
  | true =>
   apply codeAny_handlers_suite_as
   refine HandSPX.lands_againZ c.fl fun h2 fl2 up2 => ?_
   have c2 : Cgt X pins B a cls d σ H sI { z with heap := h2 } := ⟨c.inv, c.nb, fl2, c.up.trans up2, c.os, c.ag, c.na⟩
   obtain ⟨oe2, vs2, g2, hz2, hd2, S2⟩ := c2.held hf
   refine store_ok (X := X.suite a ((a, oe2) :: (X.pn ++ pins))) (v := .ref a) S2 hN hi (.inl hl) rfl (fun s3 S3 => ?_) (.inr hl)
   have run := (su a oe2 cls d (X.pn ++ pins) hz2 ⟨_, hd2⟩).run [] s3 _ H _ S3 (yes rfl a c.na)
   apply wpAny_mono run
   ·intro f s4 sp
    have off : ∀ {σ4 : L2.St} {H4 : Hp} {Q : Shared -> Prop}, L2.Inv (X.suite a ((a, oe2) :: (X.pn ++ pins))) [] σ4 H4 s4 -> (∀ s5, L2.Inv X pins (σ4.set i none) H4 s5 -> Q s5) -> wpAny (model X.prog X.w) X.A (do bindName X.env n .none; unbindBehindTheSuite X.env n p') (fun _ s5 => Q s5) X.xe s4 :=
     fun S4 k => gone_ok (S4.unsuite c.inv.ok) hN hi hl k
    cases f with
    | ret u =>
     obtain ⟨v, σ4, H4, S4, r, k⟩ := sp
     exact off S4 fun _ J => ⟨_, _, _, J, r, k⟩
    | next =>
     obtain ⟨σ4, H4, S4, k⟩ := sp
     exact off S4 fun _ J => ⟨_, _, J, k⟩
    | brk =>
     obtain ⟨σ4, H4, S4, k⟩ := sp
     exact off S4 fun _ J => ⟨_, _, J, k⟩
    | cont =>
     obtain ⟨σ4, H4, S4, k⟩ := sp
     exact off S4 fun _ J => ⟨_, _, J, k⟩
   ·intro _ _ k
    exact k.elim
end
/-- try: body, the clauses hds, all with the name n -/
theorem ps_try_nms {X : Cx} {n : Str} {i : Nat} {body : List Stmt} {h₀ : ExceptHandler} {hds : List ExceptHandler} {l : List ClT} {pos : Pos} {tb : WX -> TS} {W : WX} (hs : X.stack = X.env :: X.outer) (hf : X.env.frame = some X.env.locals) (hN : X.N.Nodup) (hi : X.N[i]? = some n) (hl : X.env.kindOf n = some .local) (tk : L2N.Takes X W)
  (hb : ∀ W' pn xe, L2N.Takes (X.tr pn xe) W' -> PassesOwn (model X.prog X.w) X.A X.env xe -> PSs (X.tr pn xe) body (tb W')) (hh : Nms X n (h₀ :: hds) l) :
  PS X (.Try body (h₀ :: hds) [] [] pos) (fun D σ H => tb (wNms X.K i W D l) D σ H) := by
 constructor
 intro pins s σ H D I k
 have ok := I.ok
 apply wpAny_Try_except
 let xe : Value -> Shared -> Prop := fun e s1 => wpAny (model X.prog X.w) X.A (noteFrame e X.env)
  (fun _ s2 => wpAny (model X.prog X.w) X.A (setFlight e none)
   (fun _ s3 => wpAny (model X.prog X.w) X.A (handleBy e X.env (h₀ :: hds)) (SP X pins D) X.xe s3) X.xe s2) X.xe s1
 have catches : L2N.Takes (X.tr (X.pn ++ pins) xe) (wNms X.K i W D l) := by
  rintro u s1 ⟨a, B, sI, pins1, σ1, H1, cls, d, rfl, J, nb, up, sky, na, os, ag, w⟩
  have fr : X.A.frames = some (X.env :: X.outer) := ok.frames.trans (congrArg some hs)
  have sky' : Sky B (X.env :: X.outer) a (L2N.Zn cls d) X.env.locals s1.heap := hs ▸ sky
  show xe (.ref a) s1
  refine L2N.Sky.land L2N.Zn.steady fr hf sky' fun h2 fl2 up2 => ?_
  exact Cgt.clauses (sI := sI) (z := { s1 with heap := h2 }) ⟨J.ofTry ok, nb, fl2, up.trans up2, os, ag, na⟩ hs hf hN hi hl tk hh w
 have run := (hb _ _ xe catches PassesOwn.looking).run [] s σ H D (I.toTry _) k
 apply wpAny_mono run
 ·intro f s1 sp
  cases f with
  | ret u =>
   obtain ⟨v, σ1, H1, J, r, q⟩ := sp
   exact ⟨v, σ1, H1, J.ofTry ok, r, q⟩
  | next =>
   obtain ⟨σ1, H1, J, q⟩ := sp
   exact wpAny_execs_nil ⟨σ1, H1, J.ofTry ok, q⟩
  | brk =>
   obtain ⟨σ1, H1, J, q⟩ := sp
   exact ⟨σ1, H1, J.ofTry ok, q⟩
  | cont =>
   obtain ⟨σ1, H1, J, q⟩ := sp
   exact ⟨σ1, H1, J.ofTry ok, q⟩
 ·exact fun _ _ e => e
/-- the first one's classes, else the second's -/
def csTwo (c1 c2 : Str -> Option Bool) : Str -> Option Bool := fun c => match c1 c with
 | some false => c2 c
 | r => r
def hTwo (c1 : Str -> Option Bool) (h1 h2 : Hd) : Hd := fun c n xs => match c1 c with
 | some true => h1 c n xs
 | some false => h2 c n xs
 | none => fun _ _ => none
end Sh
namespace GenE
open PySem PySem.Spec PyProof.Rows L2 NdefX
open GxR (TabB TabG Tabbed inv_tab sh_eta)
end GenE
namespace GenE
open PySem PySem.Spec PyProof.Rows L2 NdefX
open GxR (TabB TabG Tabbed inv_tab sh_eta)
end GenE
namespace GenE
open PySem PySem.Spec PyProof.Rows L2 NdefX
open GxR (TabB TabG Tabbed inv_tab sh_eta)
end GenE
namespace Sh
open PySem PySem.Spec PyProof.Rows L2 NdefX GenE
open GxR (TabB TabG Tabbed)
end Sh
namespace Pu
open PySem PySem.Spec PyProof.Rows L2 NdefX GenE Sh
def qTwo (c1 : Str -> Option Bool) (q1 q2 : Ph) : Ph := fun c n ds a => match c1 c with
 | some true => q1 c n ds a
 | some false => q2 c n ds a
 | none => none
theorem ah_two {c1 : Str -> Option Bool} {h1 h2 : Hd} {q1 q2 : Ph} (a1 : AH h1 q1) (a2 : AH h2 q2) : AH (hTwo c1 h1 h2) (qTwo c1 q1 q2) := by
 intro c n B Z M ρ a xs ds y a' inv r e
 unfold qTwo at e
 unfold hTwo
 split at e
 ·rename_i h
  rw [h]
  exact a1 c n B Z M ρ a xs ds y a' inv r e
 ·rename_i h
  rw [h]
  exact a2 c n B Z M ρ a xs ds y a' inv r e
 ·cases e
section
variable {a : AEnv} {QS : AOut × AEnv -> Prop} {c1 c2 : Str -> Option Bool} {q1 q2 : Ph} {c n : Str} {ds : List Dv} {Q : Bool -> Prop}
theorem w_qTwo : W (qTwo c1 q1 q2 c n ds a) QS = W (c1 c) fun b => if b = true then W (q1 c n ds a) QS else W (q2 c n ds a) QS := by
 unfold qTwo
 rcases h : c1 c with _ | b
 ·simp only [w_none]
 ·cases b <;> simp [w_some]
theorem w_csTwo : W (csTwo c1 c2 c) Q = W (c1 c) fun b => if b = true then Q true else W (c2 c) Q := by
 unfold csTwo
 rcases h : c1 c with _ | b
 ·simp only [w_none]
 ·cases b <;> simp [w_some]
end
end Pu
namespace ZlL
open PySem PySem.Spec PyProof.Rows L2
open PySem.Sem (wp)
abbrev ZipK (h : Heap) (z TI TO a : Addr) (f : Bool) : Prop :=
 h.get? z = some { cls := .type "zip", dict := none, data := .fields #[rawInt a, .bool f, .bool false, .ref TI, .ref TO], slots := #[] }
section
variable {prog : Program} {w : World} {A : Around} {E : Value -> Shared -> Prop} {s : Shared}
theorem not_free {z TI TO a : Addr} {f : Bool} {oa : Obj} {Q : Bool -> Shared -> Prop} (hz : ZipK s.heap z TI TO a f) (ha : s.heap.get? a = some oa)
  (hQ : ∀ h', ZipK h' z TI TO a true -> Heap.SameBut z s.heap h' -> Q false { s with heap := h' }) : wpAny (model prog w) A (Builtin.SmallTypes.ownedTupleIsFree (.ref z)) Q E s := by
 unfold Builtin.SmallTypes.ownedTupleIsFree
 refine wpAny_bind (wpAny_field hz rfl (x := rawInt a) rfl ?_)
 show wpAny _ _ (loadIfAlive ((a : Int).toNat) >>= _) _ _ _
 rw [Int.toNat_natCast]
 refine wpAny_bind (PySem.W.kdx_alive ha ?_)
 simp only [Option.isNone_some, Bool.false_eq_true, if_false]
 refine wpAny_bind (wpAny_field hz rfl (x := .bool f) rfl ?_)
 cases f with
 | true =>
  rw [if_neg (show ¬ ((Value.bool true != Value.bool true) = true) from Bool.false_ne_true)]
  exact wpAny_pure (hQ s.heap hz (Heap.SameBut.refl _ _))
 | false =>
  rw [if_pos (show (Value.bool false != Value.bool true) = true from rfl)]
  exact wpAny_bind (wpAny_setField_rec hz (by simp) fun h₃ he₃ hs₃ => wpAny_pure (hQ h₃ he₃ hs₃))
theorem next_out {z TI TO i1 i2 l1 l2 a : Addr} {f : Bool} {oa : Obj} {k1 k2 : Nat} {xs ys : Array Value} {x y : Value} {Q : Value -> Shared -> Prop} (D : ZipApart z TI TO i1 i2 l1 l2)
  (hz : ZipK s.heap z TI TO a f) (ha : s.heap.get? a = some oa) (hTI : IsPair s.heap TI (.ref i1) (.ref i2))
  (h1 : s.heap.IsListIter i1 l1 k1) (h2 : s.heap.IsListIter i2 l2 k2) (hl1 : s.heap.IsList l1 xs) (hl2 : s.heap.IsList l2 ys) (hx : xs[k1]? = some x) (hy : ys[k2]? = some y)
  (hQ : ∀ h', ZipK h' z TI TO a true -> h'.IsListIter i1 l1 (k1 + 1) -> h'.IsListIter i2 l2 (k2 + 1) -> IsPair h' s.heap.objs.size x y -> h'.objs.size = s.heap.objs.size + 1 ->
   (∀ c o, c ≠ z -> c ≠ i1 -> c ≠ i2 -> s.heap.get? c = some o -> h'.get? c = some o) -> Q (.ref s.heap.objs.size) { s with heap := h' }) :
  wpAny (model prog w) A (Builtin.«zip.__next__» ⟨[.ref z], []⟩) (fun fin s' => ∃ v, fin = .done (.ret v) /\ Q v s') E s := by
 show wpAny _ _ (field (.ref z) 2 >>= _) _ _ _
 refine wpAny_bind (wpAny_field hz rfl (x := .bool false) rfl ?_)
 show wpAny _ _ (field (.ref z) 3 >>= _) _ _ _
 refine wpAny_bind (wpAny_field hz rfl (x := .ref TI) rfl ?_)
 refine wpAny_bind (wpAny_seqItems hTI rfl ?_)
 show wpAny _ _ (Builtin.SmallTypes.ownedTupleIsFree (.ref z) >>= _) _ _ _
 refine wpAny_bind (not_free hz ha fun h₁ hz₁ hs₁ => ?_)
 simp only [Bool.false_eq_true, if_false, List.forIn_toArray, List.forIn_cons, List.forIn_nil]
 refine wpAny_bind (wpAny_bind ?_)
 refine wpAny_bind (wpAny_holding ?_)
 show wpAny _ _ (Builtin.SmallTypes.nextOf (.ref i1) >>= _) _ _ _
 refine wpAny_bind (wpAny_nextOf_list_item (h1.extBut hs₁.extBut D.i1z) (hl1.extBut hs₁.extBut D.l1z) hx fun h₂ h1₂ hs₂ => wpAny_pure ?_)
 refine wpAny_pure ?_
 refine wpAny_bind ?_
 refine wpAny_bind (wpAny_holding ?_)
 show wpAny _ _ (Builtin.SmallTypes.nextOf (.ref i2) >>= _) _ _ _
 refine wpAny_bind (wpAny_nextOf_list_item ((h2.extBut hs₁.extBut D.i2z).extBut hs₂.extBut D.i12.symm) ((hl2.extBut hs₁.extBut D.l2z).extBut hs₂.extBut D.l2i1) hy fun h₃ h2₃ hs₃ => wpAny_pure ?_)
 refine wpAny_pure ?_
 refine wpAny_pure ?_
 show wpAny _ _ (newTuple [x, y] >>= fun r => ret r) _ _ _
 refine wpAny_bind (wpAny_newTuple ?_)
 have hsz : h₃.objs.size = s.heap.objs.size := by rw [hs₃.1, hs₂.1, hs₁.1]
 have hz₃ : ZipK h₃ z TI TO a true := hs₃.extBut _ _ D.i2z.symm (hs₂.extBut _ _ D.i1z.symm hz₁)
 have hk : ∀ c o, c ≠ z -> c ≠ i1 -> c ≠ i2 -> s.heap.get? c = some o -> h₃.get? c = some o := fun c o c1 c2 c3 e => hs₃.extBut _ _ c3 (hs₂.extBut _ _ c2 (hs₁.extBut _ _ c1 e))
 refine wpAny_pure ⟨_, rfl, ?_⟩
 show Q (.ref h₃.objs.size) _
 rw [hsz]
 refine hQ _ (Heap.get?_push_of_some _ hz₃) ((h1₂.extBut hs₃.extBut D.i12).at fun o e => Heap.get?_push_of_some _ e) (h2₃.at fun o e => Heap.get?_push_of_some _ e) ?_ (by rw [Heap.size_push, hsz]) fun c o c1 c2 c3 e => Heap.get?_push_of_some _ (hk c o c1 c2 c3 e)
 rw [<- hsz]
 exact Heap.get?_push_size _ rfl
theorem next_end {z TI TO i1 i2 l1 l2 a : Addr} {f : Bool} {oa : Obj} {k1 k2 : Nat} {xs ys : Array Value} {Q : PySem.Fin -> Shared -> Prop} (hh : A.handled = none) (D : ZipApart z TI TO i1 i2 l1 l2)
  (hz : ZipK s.heap z TI TO a f) (ha : s.heap.get? a = some oa) (hTI : IsPair s.heap TI (.ref i1) (.ref i2))
  (h1 : s.heap.IsListIter i1 l1 k1) (h2 : s.heap.IsListIter i2 l2 k2) (hl1 : s.heap.IsList l1 xs) (hl2 : s.heap.IsList l2 ys) (hend : xs[k1]? = none \/ ys[k2]? = none)
  (hE : ∀ h' e, (∀ c o, c ≠ z -> c ≠ i1 -> c ≠ i2 -> s.heap.get? c = some o -> h'.get? c = some o) -> (∃ o, h'.get? e = some o /\ o.cls = .type "StopIteration") -> E (.ref e) { s with heap := h' }) :
  wpAny (model prog w) A (Builtin.«zip.__next__» ⟨[.ref z], []⟩) Q E s := by
 show wpAny _ _ (field (.ref z) 2 >>= _) _ _ _
 refine wpAny_bind (wpAny_field hz rfl (x := .bool false) rfl ?_)
 show wpAny _ _ (field (.ref z) 3 >>= _) _ _ _
 refine wpAny_bind (wpAny_field hz rfl (x := .ref TI) rfl ?_)
 refine wpAny_bind (wpAny_seqItems hTI rfl ?_)
 show wpAny _ _ (Builtin.SmallTypes.ownedTupleIsFree (.ref z) >>= _) _ _ _
 refine wpAny_bind (not_free hz ha fun h₁ hz₁ hs₁ => ?_)
 simp only [Bool.false_eq_true, if_false, List.forIn_toArray, List.forIn_cons, List.forIn_nil]
 refine wpAny_bind (wpAny_bind ?_)
 refine wpAny_bind (wpAny_holding ?_)
 show wpAny _ _ (Builtin.SmallTypes.nextOf (.ref i1) >>= _) _ _ _
 cases hx : xs[k1]? with
 | none => exact wpAny_bind (wpAny_nextOf_list_end hh (h1.extBut hs₁.extBut D.i1z) (hl1.extBut hs₁.extBut D.l1z) hx fun h₂ e hs₂ he => hE h₂ e (fun c o c1 c2 _ x => hs₂ _ _ c2 (hs₁.extBut _ _ c1 x)) he)
 | some x =>
  have hy : ys[k2]? = none := by rcases hend with h | h; rw [hx] at h; cases h; exact h
  refine wpAny_bind (wpAny_nextOf_list_item (h1.extBut hs₁.extBut D.i1z) (hl1.extBut hs₁.extBut D.l1z) hx fun h₂ h1₂ hs₂ => wpAny_pure ?_)
  refine wpAny_pure ?_
  refine wpAny_bind ?_
  refine wpAny_bind (wpAny_holding ?_)
  show wpAny _ _ (Builtin.SmallTypes.nextOf (.ref i2) >>= _) _ _ _
  exact wpAny_bind (wpAny_nextOf_list_end hh ((h2.extBut hs₁.extBut D.i2z).extBut hs₂.extBut D.i12.symm) ((hl2.extBut hs₁.extBut D.l2z).extBut hs₂.extBut D.l2i1) hy fun h₃ e hs₃ he => hE h₃ e (fun c o c1 c2 c3 x => hs₃ _ _ c3 (hs₂.extBut _ _ c2 (hs₁.extBut _ _ c1 x))) he)
/-- the zip: as new, or its tuple kept by another -/
def ZlSt (h : Heap) (S z TI TO : Addr) : Prop := IsZip h z TI TO .none \/ ∃ a f oa, ZipK h z TI TO a f /\ h.get? a = some oa /\ S < a
structure Below (S z TI TO i1 i2 l1 l2 : Addr) : Prop where
 z : z < S
 TI : TI < S
 TO : TO < S
 i1 : i1 < S
 i2 : i2 < S
 l1 : l1 < S
 l2 : l2 < S
theorem Below.far {S z TI TO i1 i2 l1 l2 a : Addr} (B : Below S z TI TO i1 i2 l1 l2) (h : S < a) : a ≠ z /\ a ≠ TO /\ a ≠ i1 /\ a ≠ i2 := ⟨Nat.ne_of_gt (Nat.lt_trans B.z h), Nat.ne_of_gt (Nat.lt_trans B.TO h), Nat.ne_of_gt (Nat.lt_trans B.i1 h), Nat.ne_of_gt (Nat.lt_trans B.i2 h)⟩
theorem py_item {S z TI TO i1 i2 l1 l2 : Addr} {k1 k2 : Nat} {xs ys : Array Value} {x y p q : Value} {Q : Option Value -> Shared -> Prop} (D : ZipApart z TI TO i1 i2 l1 l2) (B : Below S z TI TO i1 i2 l1 l2) (hS : S < s.heap.objs.size)
  (st : ZlSt s.heap S z TI TO) (hTI : IsPair s.heap TI (.ref i1) (.ref i2)) (hTO : IsPair s.heap TO p q)
  (h1 : s.heap.IsListIter i1 l1 k1) (h2 : s.heap.IsListIter i2 l2 k2) (hl1 : s.heap.IsList l1 xs) (hl2 : s.heap.IsList l2 ys) (hx : xs[k1]? = some x) (hy : ys[k2]? = some y)
  (hQ : ∀ h', ZlSt h' S z TI TO -> (∃ p q, IsPair h' TO p q) -> h'.IsListIter i1 l1 (k1 + 1) -> h'.IsListIter i2 l2 (k2 + 1) -> IsPair h' s.heap.objs.size x y -> h'.objs.size = s.heap.objs.size + 1 ->
   (∀ c o, c ≠ z -> c ≠ TO -> c ≠ i1 -> c ≠ i2 -> s.heap.get? c = some o -> h'.get? c = some o) -> Q (some (.ref s.heap.objs.size)) { s with heap := h' }) :
  wpAny (model prog w) A (pyNext (.ref z)) Q E s := by
 rcases st with hz | ⟨a, f, oa, hz, ha, hSa⟩
 ·exact wpAny_pyNext_zip_item D hz hTI hTO h1 h2 hl1 hl2 hx hy fun h' a1 a2 a3 a4 a5 a6 a7 => hQ h' (.inr ⟨_, _, _, a1, a5, hS⟩) ⟨_, _, a2⟩ a3 a4 a5 a6 a7
 ·have hT : s.TypeIs (.ref z) "zip" := ⟨_, hz, rfl⟩
  unfold pyNext
  exact wpAny_bind (wpAny_attempt (wpAny_callSpecial?_slot (name := Str.ofString "__next__") hT PySem.F.slot_zip_next
   (wpAny_call_entry PySem.F.slot_zip_next hT PySem.F.entry_zip_next
    (next_out D hz ha hTI h1 h2 hl1 hl2 hx hy fun h' a1 a3 a4 a5 a6 a7 => wpAny_pure (hQ h' (.inr ⟨a, true, oa, a1, a7 a oa (B.far hSa).1 (B.far hSa).2.2.1 (B.far hSa).2.2.2 ha, hSa⟩) ⟨_, _, a7 _ _ D.TOz D.TOi1 D.TOi2 hTO⟩ a3 a4 a5 a6 fun c o c1 _ c3 c4 e => a7 c o c1 c3 c4 e)) (PySem.F.args_zip_next_1 _))))
theorem py_end {S z TI TO i1 i2 l1 l2 : Addr} {k1 k2 : Nat} {xs ys : Array Value} {p q : Value} {Q : Option Value -> Shared -> Prop} (hh : A.handled = none) (D : ZipApart z TI TO i1 i2 l1 l2)
  (st : ZlSt s.heap S z TI TO) (hTI : IsPair s.heap TI (.ref i1) (.ref i2)) (hTO : IsPair s.heap TO p q)
  (h1 : s.heap.IsListIter i1 l1 k1) (h2 : s.heap.IsListIter i2 l2 k2) (hl1 : s.heap.IsList l1 xs) (hl2 : s.heap.IsList l2 ys) (hend : xs[k1]? = none \/ ys[k2]? = none)
  (hQ : ∀ h', (∀ c o, c ≠ z -> c ≠ TO -> c ≠ i1 -> c ≠ i2 -> s.heap.get? c = some o -> h'.get? c = some o) -> Q none { s with heap := h' }) :
  wpAny (model prog w) A (pyNext (.ref z)) Q E s := by
 rcases st with hz | ⟨a, f, oa, hz, ha, hSa⟩
 ·exact wpAny_pyNext_zip_end hh D hz hTI hTO h1 h2 hl1 hl2 hend hQ
 ·have hT : s.TypeIs (.ref z) "zip" := ⟨_, hz, rfl⟩
  unfold pyNext
  refine wpAny_bind (wpAny_attempt (wpAny_callSpecial?_slot (name := Str.ofString "__next__") hT PySem.F.slot_zip_next
   (wpAny_call_entry PySem.F.slot_zip_next hT PySem.F.entry_zip_next (next_end hh D hz ha hTI h1 h2 hl1 hl2 hend fun h' e hk he => ?_) (PySem.F.args_zip_next_1 _))))
  obtain ⟨o, ho, hc⟩ := he
  refine wpAny_bind (wpAny_isInstance (T := "StopIteration") (b := true) ⟨o, ho, hc⟩ isSubtype_stop ?_)
  exact wpAny_pure (hQ _ fun c o c1 _ c3 c4 e => hk c o c1 c3 c4 e)
structure ZlG (xs ys : Array Value) (lo : Addr) (h : Heap) (as : List Addr) : Prop where
 rise : as.Pairwise (· < ·)
 above : ∀ a ∈ as, lo < a
 pairs : ∀ (j : Nat) (a : Addr), as[j]? = some a -> ∃ x y, xs[j]? = some x /\ ys[j]? = some y /\ h.get? a = some { cls := .type "tuple", data := .seq #[x, y] }
theorem ZlG.there {xs ys : Array Value} {lo : Addr} {h : Heap} {as : List Addr} (g : ZlG xs ys lo h as) {a : Addr} (ha : a ∈ as) : a < h.objs.size := by
 obtain ⟨j, hj⟩ := List.mem_iff_getElem?.mp ha
 obtain ⟨_, _, _, _, e⟩ := g.pairs j a hj
 exact Heap.lt_size e
end
section
variable {prog : Program} {w : World} {A : Around} {E : Value -> Shared -> Prop} {s : Shared} {R : Result -> Shared -> Prop} {S z TI TO i1 i2 l1 l2 : Addr} {xs ys : Array Value}
theorem loop (hh : A.handled = none) (D : ZipApart z TI TO i1 i2 l1 l2) (B : Below S z TI TO i1 i2 l1 l2) (hn : min xs.size ys.size <= sizeLine) (res : Value) {h₁ : Heap}
  (hR : ∀ h' tk acc c as, (∀ b o, b ≠ S -> b ≠ z -> b ≠ TO -> b ≠ i1 -> b ≠ i2 -> h₁.get? b = some o -> h'.get? b = some o) -> h'.get? S = some { cls := .type "list", dict := none, data := .seq acc c, slots := #[] } -> as.length = min xs.size ys.size -> ZlG xs ys S h' as ->
   acc.toList = as.map Value.ref -> R (.ok (.ret res)) { s with heap := h', toks := tk }) :
  ∀ (k i : Nat) (h : Heap) (tk c : Nat) (acc : Array Value) (as : List Addr), min xs.size ys.size - i = k -> i <= min xs.size ys.size -> ZlSt h S z TI TO -> IsPair h TI (.ref i1) (.ref i2) -> (∃ p q, IsPair h TO p q) -> h.IsListIter i1 l1 i -> h.IsListIter i2 l2 i -> h.IsList l1 xs -> h.IsList l2 ys ->
   (∀ b o, b ≠ S -> b ≠ z -> b ≠ TO -> b ≠ i1 -> b ≠ i2 -> h₁.get? b = some o -> h.get? b = some o) ->
   h.get? S = some { cls := .type "list", dict := none, data := .seq acc c, slots := #[] } -> acc.toList = as.map Value.ref -> as.length = i -> ZlG xs ys S h as ->
   codeAny (model prog w) A (.builtin "list.extend.loop" ⟨[.ref S, .ref z, res], []⟩) R { s with heap := h, toks := tk } := by
 have bz := B.z
 have bTI := B.TI
 have bTO := B.TO
 have b1 := B.i1
 have b2 := B.i2
 have bl1 := B.l1
 have bl2 := B.l2
 intro k
 induction k with
 | zero =>
  intro i h tk c acc as hk hi st hTI hTO hi1 hi2 hl1 hl2 hkeep hS hacc hal hG
  obtain ⟨p, q, hTO⟩ := hTO
  refine codeAny_builtin PySem.F.entry_extend_loop ?_
  rw [Around.under_plainId PySem.F.plain_extend_loop _]
  show wpAny _ A.in1 (pyNext (.ref z) >>= _) _ _ _
  have hend : xs[i]? = none \/ ys[i]? = none := by
   rcases Nat.le_total xs.size ys.size with z | z
   ·exact .inl (Array.getElem?_eq_none (by omega))
   ·exact .inr (Array.getElem?_eq_none (by omega))
  refine wpAny_bind (py_end (s := { s with heap := h, toks := tk }) (A := A.in1) hh D st hTI hTO hi1 hi2 hl1 hl2 hend fun h' he => ?_)
  refine wpAny_pure (hR h' tk acc c as (fun b o h1 h2 h3 h4 h5 e => he b o h2 h3 h4 h5 (hkeep b o h1 h2 h3 h4 h5 e)) (he S _ (Nat.ne_of_gt bz) (Nat.ne_of_gt bTO) (Nat.ne_of_gt b1) (Nat.ne_of_gt b2) hS) (by omega) ⟨hG.rise, hG.above, fun j a hj => ?_⟩ hacc)
  obtain ⟨x, y, e1, e2, e3⟩ := hG.pairs j a hj
  obtain ⟨q1, q2, q3, q4⟩ := B.far (hG.above a (List.mem_of_getElem? hj))
  exact ⟨x, y, e1, e2, he a _ q1 q2 q3 q4 e3⟩
 | succ k ih =>
  intro i h tk c acc as hk hi st hTI hTO hi1 hi2 hl1 hl2 hkeep hS hacc hal hG
  obtain ⟨p, q, hTO⟩ := hTO
  have hlt : i < min xs.size ys.size := by omega
  have hxl : i < xs.size := by omega
  have hyl : i < ys.size := by omega
  have hx : xs[i]? = some xs[i] := Array.getElem?_eq_getElem hxl
  have hy : ys[i]? = some ys[i] := Array.getElem?_eq_getElem hyl
  have hsz : acc.size = i := by rw [<- Array.length_toList, hacc, List.length_map, hal]
  have hSl : S < h.objs.size := Heap.lt_size hS
  refine codeAny_builtin PySem.F.entry_extend_loop ?_
  rw [Around.under_plainId PySem.F.plain_extend_loop _]
  show wpAny _ A.in1 (pyNext (.ref z) >>= _) _ _ _
  refine wpAny_bind (py_item (s := { s with heap := h, toks := tk }) D B hSl st hTI hTO hi1 hi2 hl1 hl2 hx hy fun h' st' hTO' hi1' hi2' ht hz hkp => ?_)
  dsimp only at ht hz hkp ⊢
  have hS' := hkp S _ (Nat.ne_of_gt bz) (Nat.ne_of_gt bTO) (Nat.ne_of_gt b1) (Nat.ne_of_gt b2) hS
  have up : ∀ b o, b ≠ S -> h'.get? b = some o -> (h'.update S (Obj.mapSeq (·.push (Value.ref h.objs.size)))).get? b = some o := fun b o hb e => (Heap.get?_update_other _ _ (Ne.symm hb)).trans e
  have stk : ZlSt (h'.update S (Obj.mapSeq (·.push (Value.ref h.objs.size)))) S z TI TO := by
   rcases st' with hz | ⟨a, f, oa, hz, ha, hSa⟩
   ·exact .inl (up _ _ (Nat.ne_of_lt bz) hz)
   ·exact .inr ⟨a, f, oa, up _ _ (Nat.ne_of_lt bz) hz, up _ _ (Nat.ne_of_gt hSa) ha, hSa⟩
  show wpAny _ A.in1 (updateSeq S (·.push (Value.ref h.objs.size)) >>= _) _ _ _
  refine wpAny_bind ?_
  refine wpAny_updateSeq hS' rfl (wpAny_pure ⟨plainId_quiet PySem.F.plain_extend_loop _, ih (i + 1) _ tk _ (acc.push (Value.ref h.objs.size)) (as ++ [h.objs.size]) (by omega) hlt stk (up _ _ (Nat.ne_of_lt bTI) (hkp _ _ D.TIz D.TITO D.TIi1 D.TIi2 hTI)) (hTO'.imp fun p hp => hp.imp fun q hq => up _ _ (Nat.ne_of_lt bTO) hq)
   (hi1'.at fun o e => up _ o (Nat.ne_of_lt b1) e) (hi2'.at fun o e => up _ o (Nat.ne_of_lt b2) e) (hl1.at fun o e => up _ o (Nat.ne_of_lt bl1) (hkp _ o D.l1z D.l1TO D.l1i1 D.l1i2 e)) (hl2.at fun o e => up _ o (Nat.ne_of_lt bl2) (hkp _ o D.l2z D.l2TO D.l2i1 D.l2i2 e))
   (fun b o h1 h2 h3 h4 h5 e => up b o h1 (hkp b o h2 h3 h4 h5 (hkeep b o h1 h2 h3 h4 h5 e))) (Heap.get?_update_self _ hS' rfl) (by rw [Array.toList_push, hacc, List.map_append]; rfl) (by rw [List.length_append, hal]; rfl) ⟨?_, ?_, ?_⟩⟩) (by rw [hsz]; omega) (by show (acc.push (Value.ref h.objs.size)).size <= sizeLine + 1; rw [Array.size_push, hsz]; omega)
  ·refine List.pairwise_append.mpr ⟨hG.rise, List.pairwise_singleton _ _, fun a ha b hb => ?_⟩
   rw [List.mem_singleton.mp hb]
   exact hG.there ha
  ·intro a ha
   rcases List.mem_append.mp ha with ha | ha
   ·exact hG.above a ha
   ·rw [List.mem_singleton.mp ha]; exact hSl
  ·intro j b hj
   rcases Nat.lt_trichotomy j as.length with h1 | h1 | h1
   ·rw [List.getElem?_append_left h1] at hj
    obtain ⟨x', y', e1, e2, e3⟩ := hG.pairs j b hj
    have hb := hG.above b (List.mem_of_getElem? hj)
    obtain ⟨q1, q2, q3, q4⟩ := B.far hb
    exact ⟨x', y', e1, e2, up b _ (Nat.ne_of_gt hb) (hkp b _ q1 q2 q3 q4 e3)⟩
   ·subst h1
    have hb : h.objs.size = b := by simpa using hj
    subst hb
    exact ⟨xs[i], ys[i], by rw [hal]; exact hx, by rw [hal]; exact hy, up _ _ (Nat.ne_of_gt hSl) ht⟩
   ·have hnone : (as ++ [h.objs.size])[j]? = none := List.getElem?_eq_none (by rw [List.length_append, List.length_singleton]; omega)
    rw [hnone] at hj; cases hj
end
theorem zip_no_len : typeLookup (.type "zip") "__len__" = pure none := by rw [typeLookup_type, builtinLookup_eq_fast]; kernel_rfl
theorem zip_no_hint : typeLookup (.type "zip") "__length_hint__" = pure none := by rw [typeLookup_type, builtinLookup_eq_fast]; kernel_rfl
section
variable {prog : Program} {w : World} {A : Around} {E : Value -> Shared -> Prop} {s : Shared} {S z TI TO i1 i2 l1 l2 : Addr} {xs ys : Array Value}
theorem extend {R : Result -> Shared -> Prop} (hh : A.handled = none) (D : ZipApart z TI TO i1 i2 l1 l2) (B : Below S z TI TO i1 i2 l1 l2) (hn : min xs.size ys.size <= sizeLine) (res : Value) (c₀ : Nat)
  (hz : IsZip s.heap z TI TO .none) (hTI : IsPair s.heap TI (.ref i1) (.ref i2)) (hTO : ∃ p q, IsPair s.heap TO p q) (hi1 : s.heap.IsListIter i1 l1 0) (hi2 : s.heap.IsListIter i2 l2 0) (hl1 : s.heap.IsList l1 xs) (hl2 : s.heap.IsList l2 ys)
  (hS : s.heap.get? S = some { cls := .type "list", data := .seq #[] c₀ })
  (hR : ∀ h' tk acc c as, (∀ b o, b ≠ S -> b ≠ z -> b ≠ TO -> b ≠ i1 -> b ≠ i2 -> s.heap.get? b = some o -> h'.get? b = some o) -> h'.get? S = some { cls := .type "list", dict := none, data := .seq acc c, slots := #[] } -> as.length = min xs.size ys.size -> ZlG xs ys S h' as ->
   acc.toList = as.map Value.ref -> R (.ok (.ret res)) { s with heap := h', toks := tk }) :
  wpAny (model prog w) A.in1 (Builtin.List.listExtendWith (.ref S) (.ref z) res)
   (fun fin s' => match fin with | .done f => R (.ok f) s' | .again c' => c'.quiet = true /\ codeAny (model prog w) A c' R s') (fun e s' => R (.error e) s') s := by
 have bz := B.z
 have bTI := B.TI
 have bTO := B.TO
 have b1 := B.i1
 have b2 := B.i2
 have bl1 := B.l1
 have bl2 := B.l2
 have hT : s.TypeIs (.ref z) "zip" := ⟨_, hz, rfl⟩
 have key : ∀ (h : Heap) (c₁ tk : Nat), (∀ b o, b ≠ S -> s.heap.get? b = some o -> h.get? b = some o) ->
   h.get? S = some { cls := .type "list", data := .seq #[] c₁ } -> codeAny (model prog w) A (.builtin "list.extend.loop" ⟨[.ref S, .ref z, res], []⟩) R { s with heap := h, toks := tk } := by
  intro h c₁ tk hk hS₁
  exact loop (s := s) (h₁ := s.heap) hh D B hn res hR _ 0 h tk c₁ #[] [] rfl (Nat.zero_le _) (.inl (hk _ _ (Nat.ne_of_lt bz) hz)) (hk _ _ (Nat.ne_of_lt bTI) hTI) (hTO.imp fun p hp => hp.imp fun q hq => hk _ _ (Nat.ne_of_lt bTO) hq) (hi1.at fun o e => hk _ o (Nat.ne_of_lt b1) e) (hi2.at fun o e => hk _ o (Nat.ne_of_lt b2) e)
   (hl1.at fun o e => hk _ o (Nat.ne_of_lt bl1) e) (hl2.at fun o e => hk _ o (Nat.ne_of_lt bl2) e) (fun b o h1 _ _ _ _ e => hk b o h1 e) hS₁ rfl rfl ⟨List.Pairwise.nil, (fun _ ha => nomatch ha), (fun j a hj => by simp at hj)⟩
 unfold Builtin.List.listExtendWith
 refine wpAny_bind (wpAny_typeOf hT ?_)
 have h1 : Builtin.List.listSameRef (.ref S) (.ref z) = false := by simp [Builtin.List.listSameRef, Nat.ne_of_gt bz]
 have h2 : (Value.type "zip" == Value.type "list") = false := by decide
 have h3 : (Value.type "zip" == Value.type "tuple") = false := by decide
 simp only [h1, h2, h3, Bool.or_false, Bool.false_eq_true, if_false]
 refine wpAny_bind (wpAny_pyIter_zip hz ?_)
 refine wpAny_bind (wpAny_holding ?_)
 unfold Builtin.List.listLengthHint
 refine wpAny_bind (wpAny_specialOf hT zip_no_len ?_)
 show wpAny _ A.in1 (specialOf (Value.ref z) (Str.ofString "__length_hint__") >>= _) _ _ _
 refine wpAny_bind (wpAny_specialOf hT zip_no_hint ?_)
 refine wpAny_pure ?_
 show wpAny _ A.in1 (rule "list.extend.makes-room" >>= fun _ => Builtin.List.listTouch (.ref S) >>= fun _ =>
  again (.builtin "list.extend.loop" ⟨[.ref S, .ref z, res], []⟩)) _ _ _
 refine wpAny_bind (wpAny_rule ?_)
 refine wpAny_bind ?_
 show wpAny _ A.in1 (updateSeq S (·.push .none) >>= fun _ => updateSeq S (·.pop)) _ _ _
 refine wpAny_bind (wpAny_updateSeq hS rfl ?_)
 have hS₂ := Heap.get?_update_self (Obj.mapSeq (·.push Value.none)) hS rfl
 refine wpAny_updateSeq (hz := by seq_fits) hS₂ rfl ?_
 have hS₃ := Heap.get?_update_self (Obj.mapSeq (·.pop)) hS₂ rfl
 refine wpAny_pure ⟨plainId_quiet PySem.F.plain_extend_loop _, key _ _ _ (fun b o hb e => ?_) hS₃⟩
 exact (Heap.get?_update_other _ _ (Ne.symm hb)).trans ((Heap.get?_update_other _ _ (Ne.symm hb)).trans e)
theorem init {R : Result -> Shared -> Prop} (hh : A.handled = none) (D : ZipApart z TI TO i1 i2 l1 l2) (B : Below S z TI TO i1 i2 l1 l2) (hn : min xs.size ys.size <= sizeLine)
  (hz : IsZip s.heap z TI TO .none) (hTI : IsPair s.heap TI (.ref i1) (.ref i2)) (hTO : ∃ p q, IsPair s.heap TO p q) (hi1 : s.heap.IsListIter i1 l1 0) (hi2 : s.heap.IsListIter i2 l2 0) (hl1 : s.heap.IsList l1 xs) (hl2 : s.heap.IsList l2 ys)
  (hS : s.heap.get? S = some { cls := .type "list", data := .seq #[] })
  (hR : ∀ h' tk acc c as, (∀ b o, b ≠ S -> b ≠ z -> b ≠ TO -> b ≠ i1 -> b ≠ i2 -> s.heap.get? b = some o -> h'.get? b = some o) -> h'.get? S = some { cls := .type "list", dict := none, data := .seq acc c, slots := #[] } -> as.length = min xs.size ys.size -> ZlG xs ys S h' as ->
   acc.toList = as.map Value.ref -> R (.ok (.ret .none)) { s with heap := h', toks := tk }) :
  wpAny (model prog w) A.in1 (Builtin.«list.__init__» ⟨[.ref S, .ref z], []⟩)
   (fun fin s' => match fin with | .done f => R (.ok f) s' | .again c' => c'.quiet = true /\ codeAny (model prog w) A c' R s') (fun e s' => R (.error e) s') s := by
 have bz := B.z
 have bTI := B.TI
 have bTO := B.TO
 have b1 := B.i1
 have b2 := B.i2
 have bl1 := B.l1
 have bl2 := B.l2
 show wpAny _ _ (do let old <- Builtin.List.listItems (.ref S); Builtin.List.listUpdate (.ref S) (fun _ => #[]); letGo old.toList.reverse; Builtin.List.listExtendWith (.ref S) (.ref z) .none) _ _ s
 refine wpAny_bind ?_
 unfold Builtin.List.listItems
 refine wpAny_bind (wpAny_seqItems hS rfl (wpAny_pure ?_))
 show wpAny _ _ (updateSeq S (fun _ => #[]) >>= fun _ => letGo (#[] : Array Value).toList.reverse >>= fun _ => Builtin.List.listExtendWith (.ref S) (.ref z) .none) _ _ s
 refine wpAny_bind (wpAny_updateSeq hS rfl ?_)
 have hS₂ := Heap.get?_update_self (Obj.mapSeq (fun _ => (#[] : Array Value))) hS rfl
 have oth : ∀ b o, b ≠ S -> s.heap.get? b = some o -> (s.heap.update S (Obj.mapSeq (fun _ => (#[] : Array Value)))).get? b = some o :=
  fun b o hb e => (Heap.get?_update_other _ _ (Ne.symm hb)).trans e
 refine wpAny_bind (wpAny_letGo ?_)
 exact extend hh D B hn .none _ (oth _ _ (Nat.ne_of_lt bz) hz) (oth _ _ (Nat.ne_of_lt bTI) hTI) (hTO.imp fun p hp => hp.imp fun q hq => oth _ _ (Nat.ne_of_lt bTO) hq) (hi1.at fun o e => oth _ o (Nat.ne_of_lt b1) e) (hi2.at fun o e => oth _ o (Nat.ne_of_lt b2) e)
  (hl1.at fun o e => oth _ o (Nat.ne_of_lt bl1) e) (hl2.at fun o e => oth _ o (Nat.ne_of_lt bl2) e) hS₂ fun h' tk acc c as hk hS' hl hG hacc => hR h' tk acc c as (fun b o hb h2 h3 h4 h5 e => hk b o hb h2 h3 h4 h5 (oth b o hb e)) hS' hl hG hacc
end
end ZlL
namespace ZlL
open PySem PySem.Spec PyProof.Rows L2
end ZlL
namespace Sh
open PySem PySem.Spec PyProof.Rows L2 NdefX GenE ZlL
end Sh
namespace Pu
open PySem PySem.Spec PyProof.Rows L2 NdefX GenE Sh
end Pu
namespace Sh
open PySem PySem.Spec PyProof.Rows L2 NdefX GenE
end Sh
namespace Pu
open PySem PySem.Spec PyProof.Rows L2 NdefX GenE Sh
end Pu
namespace Sh
open PySem PySem.Spec PyProof.Rows L2 NdefX GenE
theorem strs_map (l : List Str) {K : PySem.W.Frag} {μ : List Addr} {H : Hp} : RvA K μ H (l.map .str) (l.map V.str) := by
 induction l with
 | nil => exact .nil
 | cons x l ih => exact .cons (.str x) ih
def vSplit : Vl -> Vl -> Mem -> Option (Vl × Mem)
 | .str a, .str b, M => if (b.length == 0) = false /\ a.length <= lim then some (.ref M.length, M ++ [.lst ((Txt.split a b).map .str)]) else none
 | _, _, _ => none
section
variable {F : Fam} {o e : Expr} {fa f : Fe} {apos pos : Pos}
theorem se_split (ho : SE F o fa) (he : SE F e f) (hs : ∀ env, starEach [e] env = [(false, eval e env)] := by intro _; rfl) (hbase : ∀ env, attributeBase o "split" env (eval o env) = eval o env := by intro _; rfl) (hline : (apos.endLine == pos.line) = true := by rfl) :
  SE F (.Call (.Attribute o "split" apos) [e] [] pos) (e2 vSplit fa f) := by
 obtain ⟨to, po, so⟩ := ho
 obtain ⟨te, pe, se⟩ := he
 refine ⟨_, fun i => pe_m1 PySem.F.slot_str_split PySem.F.type_str_split mt_split (po i) (pe i) (hs _) (hbase _) hline, fun σ H μ ρ M v M' Q h rσ rs q => ?_⟩
 obtain ⟨x, M1, y, M2, h1, h2, h3⟩ := e2_some h
 refine so σ H μ ρ M _ _ _ h1 rσ rs fun w1 μ1 H1 e1 r1 s1 => ?_
 have hx : ∃ a b, x = .str a /\ y = .str b := by
  cases x <;> cases y <;> simp only [vSplit] at h3 <;> first | exact ⟨_, _, rfl, rfl⟩ | cases h3
 obtain ⟨a, b, rfl, rfl⟩ := hx
 cases r1
 refine ⟨⟨a, rfl⟩, se σ H1 μ1 ρ M1 _ _ _ h2 (rσ.ext e1) s1 fun w2 μ2 H2 e2 r2 s2 => ?_⟩
 cases r2
 simp only [vSplit] at h3
 split at h3
 ·rename_i hc
  cases h3
  refine ⟨a, b, rfl, rfl, hc.1, Nat.le_trans (Nat.add_le_add_right hc.2 2) (by decide), fun p np => ?_⟩
  obtain ⟨s4, e4, r4⟩ := s2.alloc (u := .lst ((Txt.split a b).map V.str)) (o := .lst ((Txt.split a b).map .str)) np fun e => ⟨_, upd_same, strs_map _⟩
  exact q _ _ _ ((e1.trans e2).trans e4) r4 s4
 ·cases h3
end
end Sh
namespace Pu
open PySem PySem.Spec PyProof.Rows L2 NdefX GenE Sh
theorem dstrs_den {Z : Nat -> Prop} {M : Mem} (l : List Str) : DenA Z M (l.map .str) (l.map .str) := by
 induction l with
 | nil => exact .nil
 | cons x l ih => exact .cons (.str x) ih
def dSplit : Dv -> Dv -> Option (Bool × Dv)
 | .str a, .str b => if (b.length == 0) = false /\ a.length <= lim then some (true, .lst ((Txt.split a b).map .str)) else none
 | _, _ => none
theorem r_split : Op2R vSplit dSplit := by
 intro Z M v w d e o r hv hw h
 unfold dSplit at h
 split at h
 ·split at h
  ·rename_i hq
   cases h; cases hv; cases hw
   exact ⟨_, by simp only [vSplit]; rw [if_pos hq], .lst (dstrs_den _)⟩
  ·cases h
 ·cases h
section
variable {Q : Bool × Dv -> Prop} {a b : Str}
theorem o_split : W (dSplit (.str a) (.str b)) Q = (((b.length == 0) = false /\ a.length <= lim) /\ Q (true, .lst ((Txt.split a b).map .str))) := by simp only [dSplit, w_if]
end
end Pu
namespace Sh
open PySem PySem.Spec PyProof.Rows L2 NdefX GenE
theorem ssx_try_three {F : FamX} {body su1 su2 su3 : List Stmt} {b1 b2 b3 : Stmt} {s : Fs} {x1 x2 x3 n : Str} {p1 p2 p3 p4 p5 p6 pos : Pos} {c1 c2 c3 : Str -> Option Bool} {h1 h2 h3 : Hd} (tp : Top F) (i : Nat) (hN : F.N.Nodup) (hi : F.N[i]? = some n) (hln : F.sc.names.lookup n = some .local)
  (hg1 : Glb F.toFam x1) (hg2 : Glb F.toFam x2) (hg3 : Glb F.toFam x3) (hc1 : Cat F.K F.mg x1 c1) (hc2 : Cat F.K F.mg x2 c2) (hc3 : Cat F.K F.mg x3 c3) (hb : SSsX F.tr body s) (hh1 : HdS F i (b1 :: su1) h1) (hh2 : HdS F i (b2 :: su2) h2) (hh3 : HdS F i (b3 :: su3) h3)
  (hd1 : (x1 == ("__debug__" : Str)) = false := by decide) (hd2 : (x2 == ("__debug__" : Str)) = false := by decide) (hd3 : (x3 == ("__debug__" : Str)) = false := by decide) :
  SSX F (.Try body [.ExceptHandler (some (.Name x1 p1)) (some n) (b1 :: su1) p2, .ExceptHandler (some (.Name x2 p3)) (some n) (b2 :: su2) p4, .ExceptHandler (some (.Name x3 p5)) (some n) (b3 :: su3) p6] [] [] pos) (sTry s (csTwo c1 (csTwo c2 c3)) (hTwo c1 h1 (hTwo c2 h2 h3))) := fun W => by
 obtain ⟨v1, m1, k1⟩ := hc1
 obtain ⟨v2, m2, k2⟩ := hc2
 obtain ⟨v3, m3, k3⟩ := hc3
 obtain ⟨t1, r1, e1⟩ := hh1
 obtain ⟨t2, r2, e2⟩ := hh2
 obtain ⟨t3, r3, e3⟩ := hh3
 obtain ⟨tb, htb⟩ : ∃ tb : WX -> TS, ∀ W', (∀ j, F.tr.W j = W' -> PSs (F.tr.X j) body (tb W')) /\ SemSX F.K F.T F.mg W' (tb W') s := ⟨fun W' => (hb W').choose, fun W' => (hb W').choose_spec⟩
 refine ⟨fun D σ H => tb (wNms F.K i W D [(v1, t1), (v2, t2), (v3, t3)]) D σ H, fun j ej => ?_, semTry (fun W' => (htb W').2) (fun a cls d σ H μ ρ M c n xs o ρ' M' D hcs e rσ rs rx q => ?_) (fun cls d σ H c D hcs hm hw => ?_)⟩
 ·have z := ps_try_nms (X := F.X j) (n := n) (i := i) (pos := pos) (tb := tb) (W := W) (tp.stk j) (tp.fr j) (by rw [F.hN j]; exact hN) (by rw [F.hN j]; exact hi) (by show (F.X j).env.scope.names.lookup n = _; rw [F.hsc j]; exact hln) (ej ▸ F.tk j)
   (fun W' pn xe tk po => (htb W').1 ⟨(j, pn, xe, W'), tk, po⟩ rfl)
   (.cons (x := x1) (q := (v1, t1)) (p := p1) (p' := p2) ⟨hg1.gl j, hd1, .inl (by rw [F.hmg j]; exact m1)⟩ (fun a oe cls d pn z1 z2 => r1 j a oe cls d pn z1 z2)
    (.cons (x := x2) (q := (v2, t2)) (p := p3) (p' := p4) ⟨hg2.gl j, hd2, .inl (by rw [F.hmg j]; exact m2)⟩ (fun a oe cls d pn z1 z2 => r2 j a oe cls d pn z1 z2)
     (.cons (x := x3) (q := (v3, t3)) (p := p5) (p' := p6) ⟨hg3.gl j, hd3, .inl (by rw [F.hmg j]; exact m3)⟩ (fun a oe cls d pn z1 z2 => r3 j a oe cls d pn z1 z2) .nil)))
  rw [F.hK j] at z
  exact z
 ·simp only [csTwo] at hcs
  simp only [hTwo] at e
  split at hcs
  ·rename_i h
   rw [h] at e
   refine ⟨false, k1 c _ h cls rx.1, (fun z => nomatch z), fun _ => ?_⟩
   simp only at e
   split at hcs
   ·rename_i h'
    rw [h'] at e
    exact ⟨false, k2 c _ h' cls rx.1, (fun z => nomatch z), fun _ => ⟨true, k3 c _ hcs cls rx.1, fun _ a na => e3 a cls d σ H μ ρ M c n xs o ρ' M' D e rσ rs rx na q, (fun z => nomatch z)⟩⟩
   ·rw [hcs] at e
    exact ⟨true, k2 c _ hcs cls rx.1, fun _ a na => e2 a cls d σ H μ ρ M c n xs o ρ' M' D e rσ rs rx na q, (fun z => nomatch z)⟩
  ·rw [hcs] at e
   exact ⟨true, k1 c _ hcs cls rx.1, fun _ a na => e1 a cls d σ H μ ρ M c n xs o ρ' M' D e rσ rs rx na q, (fun z => nomatch z)⟩
 ·simp only [csTwo] at hcs
  split at hcs
  ·rename_i h
   split at hcs
   ·rename_i h'
    exact ⟨false, k1 c _ h cls hm, (fun z => nomatch z), fun _ => ⟨false, k2 c _ h' cls hm, (fun z => nomatch z), fun _ => ⟨false, k3 c _ hcs cls hm, (fun z => nomatch z), fun _ => hw⟩⟩⟩
   ·rename_i h'
    exact absurd hcs h'
  ·rename_i h
   exact absurd hcs h
end Sh
namespace Cm
open PySem PySem.Spec PyProof.Rows L2 NdefX GenE Sh Pu
open GxR (TabB TabG Tabbed)
def p_is_whole : Pd := runA none 1 (zRet (pAnd (pIsi "int" (pVar 0)) (pNot (pIsi "bool" (pVar 0)))))
def p_are_whole : Pd := runA none 1 (zRet (pAnd (pIsi "tuple" (pVar 0)) (pAllG false 1 [] (piSeq (pVar 0)) (pgN 0) qYs (pCall none p_is_whole (paCons (pVar 0) paNil)))))
def z_law_digits_0 : Ps := zCons (zSet 4 (p2 dMod (p2 dAdd (p2 dAdd (p2 dMul (pVar 4) (pVar 4)) (p2 dMul (pC (.int 48271)) (pVar 4))) (pVar 5)) (pC (.int 2147483629)))) (zSet 3 (p2 dAdd (p2 dMul (pVar 3) (pC (.int 2147483587))) (p2 dMod (p2 dMul (pVar 4) (pC (.int 69621))) (pC (.int 2147483587)))))
def z_law_digits_1 : Ps := zCons (zFor (piR1 (pC (.int 12))) (pgN 5) z_law_digits_0) (zRet (pL (paCons (pFz 3) paNil)))
def z_law_digits_2 : Ps := zCons (zSet 4 (p2 dMod (p2 dAdd (p2 dAdd (p2 dMul (pVar 2) (pC (.int 48271))) (p2 dMul (pC (.int 7919)) (pVar 1))) (pC (.int 11))) (pC (.int 2147483647)))) z_law_digits_1
def z_law_digits_3 : Ps := zCons (zSet 3 (pC (.int 0))) z_law_digits_2
def z_law_digits_4 : Ps := zCons (zIf (qV (p2 dGe (pVar 2) (p2 dPow (pC (.int 10)) (pC (.int 18))))) (zRet (pL (paCons (pK (p2 dSub (pVar 2) (p2 dPow (pC (.int 10)) (pC (.int 18))))) paNil))) zNil) z_law_digits_3
def z_law_digits_5 : Ps := zCons (zSet 2 (pIf (qV (p2 dLt (pVar 1) (p1 dLen (pVar 0)))) (p2 dIx (pVar 0) (pVar 1)) (pC (.int 0)))) z_law_digits_4
def p_law_digits : Pd := runA none 6 z_law_digits_5
def z_law_take_0 : Ps := zCons (zAsg (pK (p2 dDiv (p2 dIx (pVar 0) (pC (.int 0))) (pVar 1))) (pgSb 0 (pC (.int 0)))) (zRetV 2)
def z_law_take_1 : Ps := zCons (zSet 2 (p2 dMod (p2 dIx (pVar 0) (pC (.int 0))) (pVar 1))) z_law_take_0
def p_law_take : Pd := runA (some 0) 3 z_law_take_1
def z_law_words_0 : Ps := zCons (zSet 7 (pCall (some 0) p_law_take (paCons (pVar 0) (paCons (pC (.int 4)) paNil)))) (zRet (pLc [8] (piR1 (pVar 1)) (pgN 8) qYs (p2 dIx (pVar 6) (p2 dMod (p2 dAdd (pVar 7) (pVar 8)) (pC (.int 4))))))
def z_law_words_1 : Ps := zCons (zSet 6 (pL (paCons (pFz 3) (paCons (pK (p2 dAdd (p2 dAdd (pSl (pVar 3) poN (poS (pVar 4))) (pVar 5)) (pSl (pVar 3) (poS (p2 dAdd (pVar 4) (pC (.int 1)))) poN))) (paCons (pK (p2 dAdd (pVar 3) (pVar 5))) (paCons (pK (pSl (pVar 3) poN (poS (pNeg (pC (.int 1)))))) paNil)))))) z_law_words_0
def z_law_words_2 : Ps := zCons (zSet 5 (p2 dIx (pVar 2) (p2 dMod (p2 dAdd (p2 dAdd (p2 dSIndex (pVar 2) (p2 dIx (pVar 3) (pVar 4))) (pC (.int 1))) (pCall (some 0) p_law_take (paCons (pVar 0) (paCons (pC (.int 15)) paNil)))) (pC (.int 16))))) z_law_words_1
def z_law_words_3 : Ps := zCons (zSet 4 (pCall (some 0) p_law_take (paCons (pVar 0) (paCons (p1 dLen (pVar 3)) paNil)))) z_law_words_2
def z_law_words_4 : Ps := zCons (zSet 3 (p2 dJoin (pC (.str (Str.ofString ""))) (pLc [8] (piR1 (p2 dAdd (pC (.int 2)) (pCall (some 0) p_law_take (paCons (pVar 0) (paCons (pC (.int 6)) paNil))))) (pgN 8) qYs (p2 dIx (pVar 2) (pCall (some 0) p_law_take (paCons (pVar 0) (paCons (pC (.int 16)) paNil))))))) z_law_words_3
def z_law_words_5 : Ps := zCons (zSet 2 (pC (.str (Str.ofString "abcdefghijklmnop")))) z_law_words_4
def p_law_words : Pd := runA (some 0) 9 z_law_words_5
def z_law_stock_0 : Ps := zCons (zIf (qAn (qV (p2 dNe (pVar 5) (pL paNil))) (qV (p2 dEq (pCall (some 0) p_law_take (paCons (pVar 0) (paCons (pC (.int 3)) paNil))) (pC (.int 0))))) (zSet 7 (p2 dIx (p2 dIx (pVar 5) (pC (.int 0))) (pC (.int 1)))) zNil) (zEx (pApp 5 (pT (paCons (p2 dIx (pVar 3) (pVar 6)) (paCons (pK (p1 dTuple (pVar 7))) paNil)))))
def z_law_stock_1 : Ps := zCons (zFor (piR1 (p2 dAdd (pC (.int 1)) (pCall (some 0) p_law_take (paCons (pVar 0) (paCons (pC (.int 4)) paNil))))) (pgN 8) (zEx (pApp 7 (pT (paCons (p2 dIx (pVar 4) (pCall (some 0) p_law_take (paCons (pVar 0) (paCons (p1 dLen (pVar 4)) paNil)))) (paCons (p2 dIx (pC (.str (Str.ofString "+-"))) (pCall (some 0) p_law_take (paCons (pVar 0) (paCons (pC (.int 2)) paNil)))) paNil)))))) z_law_stock_0
def z_law_stock_2 : Ps := zCons (zSet 7 (pL paNil)) z_law_stock_1
def z_law_stock_3 : Ps := zCons (zFor (piR1 (p2 dAdd (pC (.int 1)) (pCall (some 0) p_law_take (paCons (pVar 0) (paCons (pC (.int 4)) paNil))))) (pgN 6) z_law_stock_2) (zRet (p1 dTuple (p1 dSortedX (pVar 5))))
def z_law_stock_4 : Ps := zCons (zSet 5 (pL paNil)) z_law_stock_3
def z_law_stock_5 : Ps := zCons (zSet 4 (pCall (some 0) p_law_words (paCons (pVar 0) (paCons (p2 dAdd (pC (.int 1)) (pCall (some 0) p_law_take (paCons (pVar 0) (paCons (pC (.int 3)) paNil)))) paNil)))) z_law_stock_4
def z_law_stock_6 : Ps := zCons (zIf (qV (p2 dEq (pCall (some 0) p_law_take (paCons (pVar 0) (paCons (pC (.int 2)) paNil))) (pC (.int 0)))) (zSet 3 (pCall (some 0) p_law_words (paCons (pVar 0) (paCons (pC (.int 4)) paNil)))) zNil) z_law_stock_5
def z_law_stock_7 : Ps := zCons (zSet 3 (pLc [6] (piR1 (pC (.int 4))) (pgN 6) qYs (p2 dIx (pVar 1) (p2 dMod (p2 dAdd (pVar 2) (p2 dMul (pC (.int 3)) (pVar 6))) (pC (.int 8)))))) z_law_stock_6
def z_law_stock_8 : Ps := zCons (zSet 2 (pCall (some 0) p_law_take (paCons (pVar 0) (paCons (pC (.int 8)) paNil)))) z_law_stock_7
def z_law_stock_9 : Ps := zCons (zSet 1 (pL (paCons (pC (.str (Str.ofString "a"))) (paCons (pC (.str (Str.ofString "add"))) (paCons (pC (.str (Str.ofString "adder"))) (paCons (pC (.str (Str.ofString "cut"))) (paCons (pC (.str (Str.ofString "ring"))) (paCons (pC (.str (Str.ofString "outer"))) (paCons (pC (.str (Str.ofString "rule"))) (paCons (pC (.str (Str.ofString "abcdefgh"))) paNil)))))))))) z_law_stock_8
def p_law_stock : Pd := runA (some 0) 9 z_law_stock_9
def z_law_free_0 : Ps := zCons (zDput 3 (pVar 6) (pC (.bl true))) (zDput 3 (pVar 7) (pC (.bl true)))
def z_law_free_1 : Ps := zCons (zFor (piEnum (pVar 1)) (pgT 2 (pgsCons (pgN 8) (pgsCons (pgN 9) pgsNil))) (zEx (pExt 5 (pLc [10, 11] (piEnum (p2 dDG (pVar 4) (pVar 9))) (pgT 2 (pgsCons (pgN 10) (pgsCons (pgN 11) pgsNil))) (qV (p2 dDNotIn (pT (paCons (pFz 8) (paCons (pFz 10) paNil))) (pVar 3))) (pT (paCons (pT (paCons (pFz 8) (paCons (pFz 10) paNil))) (paCons (pFz 11) paNil))))))) (zRetV 5)
def z_law_free_2 : Ps := zCons (zSet 5 (pL paNil)) z_law_free_1
def z_law_free_3 : Ps := zCons (zSet 4 (p1 dDict (pVar 0))) z_law_free_2
def z_law_free_4 : Ps := zCons (zFor (piSeq (pVar 2)) (pgT 2 (pgsCons (pgN 6) (pgsCons (pgN 7) pgsNil))) z_law_free_0) z_law_free_3
def z_law_free_5 : Ps := zCons (zSet 3 pDT) z_law_free_4
def p_law_free : Pd := runA none 12 z_law_free_5
def z_law_order_0 : Ps := zCons (zWhile (qV (p2 dNe (pVar 2) (pL paNil))) (zEx (pApp 3 (pK (pPop 2 (pCall (some 0) p_law_take (paCons (pVar 0) (paCons (p1 dLen (pVar 2)) paNil)))))))) (zRetV 3)
def z_law_order_1 : Ps := zCons (zSet 3 (pL paNil)) z_law_order_0
def z_law_order_2 : Ps := zCons (zSet 2 (p1 dListRg (pVar 1))) z_law_order_1
def p_law_order : Pd := runA (some 0) 4 z_law_order_2
def z_law_rings_0 : Ps := zCons (zSet 4 (p2 dIx (pL (paCons (pC (.int 0)) (paCons (pC (.int 0)) (paCons (pC (.int 1)) (paCons (pK (p2 dAdd (pC (.int 1)) (pCall (some 0) p_law_take (paCons (pVar 0) (paCons (p2 dPow (pC (.int 10)) (pC (.int 9))) paNil))))) paNil))))) (pCall (some 0) p_law_take (paCons (pVar 0) (paCons (pC (.int 4)) paNil))))) (zEx (pExt 2 (pSl (pL (paCons (pT (paCons (pFz 3) (paCons (pFz 4) paNil))) paNil)) poN (poS (pVar 4)))))
def z_law_rings_1 : Ps := zCons (zFor (piSeq (pSortSet (pVar 1))) (pgN 3) z_law_rings_0) (zRet (p1 dTuple (pVar 2)))
def z_law_rings_2 : Ps := zCons (zSet 2 (pL paNil)) z_law_rings_1
def p_law_rings : Pd := runA (some 0) 5 z_law_rings_2
def p_law_mate : Pd := runA none 1 (zRet (pT (paCons (p2 dIx (pVar 0) (pC (.int 0))) (paCons (pIf (qV (p2 dEq (p2 dIx (pVar 0) (pC (.int 1))) (pC (.str (Str.ofString "+"))))) (pC (.str (Str.ofString "-"))) (pC (.str (Str.ofString "+")))) paNil))))
def z_law_net_0 : Ps := zCons (zEx (pApp 6 (pK (pCall none p_law_mate (paCons (pVar 14) paNil))))) (zEx (pApp 7 (pFz 16)))
def z_law_net_1 : Ps := zCons (zSet 13 (pLc [15] (piR1 (p1 dLen (pVar 5))) (pgN 15) (qV (p2 dEq (p2 dIx (p2 dIx (pVar 5) (pVar 15)) (pC (.int 1))) (pCall none p_law_mate (paCons (pVar 14) paNil)))) (pFz 15))) (zIf (qAn (qV (p2 dNe (pVar 13) (pL paNil))) (qV (p2 dGt (pCall (some 0) p_law_take (paCons (pVar 0) (paCons (pC (.int 4)) paNil))) (pC (.int 0))))) (zEx (pApp 3 (pT (paCons (pFz 16) (paCons (p2 dIx (pPop 5 (p2 dIx (pVar 13) (pCall (some 0) p_law_take (paCons (pVar 0) (paCons (p1 dLen (pVar 13)) paNil))))) (pC (.int 0))) paNil))))) z_law_net_0)
def z_law_net_2 : Ps := zCons (zAsg (pK (pPop 5 (pCall (some 0) p_law_take (paCons (pVar 0) (paCons (p1 dLen (pVar 5)) paNil))))) (pgT 2 (pgsCons (pgN 16) (pgsCons (pgN 14) pgsNil)))) z_law_net_1
def z_law_net_3 : Ps := zCons (zEx (pExt 7 (pL (paCons (pC .non) (paCons (pK (p1 dLen (pVar 6))) paNil))))) (zEx (pExt 6 (pL (paCons (pFz 14) (paCons (pK (pCall none p_law_mate (paCons (pVar 14) paNil))) paNil)))))
def z_law_net_4 : Ps := zCons (zSet 14 (pT (paCons (p2 dIx (pVar 8) (pCall (some 0) p_law_take (paCons (pVar 0) (paCons (p1 dLen (pVar 8)) paNil)))) (paCons (p2 dIx (pC (.str (Str.ofString "+-"))) (pCall (some 0) p_law_take (paCons (pVar 0) (paCons (pC (.int 2)) paNil)))) paNil)))) z_law_net_3
def z_law_net_5 : Ps := zCons (zAsg (pFz 14) (pgSb 11 (p2 dIx (pVar 10) (pVar 15)))) (zIf (qV (pIsi "int" (p2 dIx (pVar 7) (pVar 15)))) (zEx (pApp 3 (pT (paCons (pT (paCons (pNeg (pC (.int 1))) (paCons (p2 dIx (pVar 10) (pVar 15)) paNil))) (paCons (pT (paCons (pNeg (pC (.int 1))) (paCons (p2 dIx (pVar 10) (p2 dIx (pVar 7) (pVar 15))) paNil))) paNil))))) (zIf (qV (p2 dIsNot (p2 dIx (pVar 7) (pVar 15)) (pC .non))) (zEx (pApp 3 (pT (paCons (pT (paCons (pNeg (pC (.int 1))) (paCons (p2 dIx (pVar 10) (pVar 15)) paNil))) (paCons (p2 dIx (pVar 7) (pVar 15)) paNil))))) zNil))
def z_law_net_6 : Ps := zCons (zSet 12 (p1 dTuple (p1 dSortedX (pLc [17] (piSeq (pVar 3)) (pgN 17) qYs (pK (p1 dTuple (p1 dSortedX (pVar 17)))))))) (zRet (pT (paCons (pK (p1 dTuple (pVar 11))) (paCons (pK (p1 dTuple (pVar 2))) (paCons (pFz 12) (paCons (pK (pCall (some 0) p_law_rings (paCons (pVar 0) (paCons (pVar 8) paNil)))) paNil))))))
def z_law_net_7 : Ps := zCons (zFor (piEnum (pVar 6)) (pgT 2 (pgsCons (pgN 15) (pgsCons (pgN 14) pgsNil))) z_law_net_5) z_law_net_6
def z_law_net_8 : Ps := zCons (zSet 11 (pLc [14] (piSeq (pVar 6)) (pgN 14) qYs (pC .non))) z_law_net_7
def z_law_net_9 : Ps := zCons (zSet 10 (pCall (some 0) p_law_order (paCons (pVar 0) (paCons (p1 dLen (pVar 6)) paNil)))) z_law_net_8
def z_law_net_10 : Ps := zCons (zFor (piR1 (pVar 4)) (pgN 9) z_law_net_4) z_law_net_9
def z_law_net_11 : Ps := zCons (zSet 8 (pLc [14] (piSeq (p2 dDG (p1 dDict (pVar 1)) (p2 dIx (p2 dIx (pVar 1) (pC (.int 0))) (pC (.int 0))))) (pgN 14) qYs (p2 dIx (pVar 14) (pC (.int 0))))) z_law_net_10
def z_law_net_12 : Ps := zCons (zWhile (qV (p2 dNe (pVar 5) (pL paNil))) z_law_net_2) z_law_net_11
def z_law_net_13 : Ps := zCons (zSet 7 (pL paNil)) z_law_net_12
def z_law_net_14 : Ps := zCons (zSet 6 (pL paNil)) z_law_net_13
def z_law_net_15 : Ps := zCons (zSet 5 (pCall none p_law_free (paCons (pVar 1) (paCons (pVar 2) (paCons (pVar 3) paNil))))) z_law_net_14
def z_law_net_16 : Ps := zCons (zSet 3 (p1 dList (pVar 3))) z_law_net_15
def p_law_net : Pd := runA (some 0) 18 z_law_net_16
def z_links_of_0 : Ps := zCons (zDput 1 (pVar 2) (pFz 3)) (zDput 1 (pVar 3) (pFz 2))
def z_links_of_1 : Ps := zCons (zFor (piSeq (pVar 0)) (pgT 2 (pgsCons (pgN 2) (pgsCons (pgN 3) pgsNil))) z_links_of_0) (zRetV 1)
def z_links_of_2 : Ps := zCons (zSet 1 pDT) z_links_of_1
def p_links_of : Pd := runA none 4 z_links_of_2
end Cm
namespace K06
open PySem PySem.Spec PyProof.Rows L2 NdefX GenE Sh Pu
open GxR (TabB TabG Tabbed)
def p_is_tuple : Pd := runA none 2 (zRet (pAnd (pIsi "tuple" (pVar 0)) (p2 dEq (p1 dLen (pVar 0)) (pVar 1))))
def p_rises : Pd := runA none 1 (zRet (pAllG false 1 [0] (piR1 (p2 dSub (p1 dLen (pVar 0)) (pC (.int 1)))) (pgN 0) qYs (p2 dLtD (p2 dIx (pVar 1) (pVar 0)) (p2 dIx (pVar 1) (p2 dAdd (pVar 0) (pC (.int 1)))))))
def p_is_spelled : Pd := runA none 3 (zRet (pAnd (p3 dLe dLe (pC (.int 1)) (p1 dLen (pVar 0)) (pVar 2)) (pAllG false 1 [1] (piSeq (pVar 0)) (pgN 0) qYs (p2 dIn (pVar 0) (pVar 1)))))
def p_is_name : Pd := runA none 1 (zRet (pAnd (pIsi "str" (pVar 0)) (pCall none p_is_spelled (paCons (pVar 0) (paCons (pC (.str (Str.ofString "abcdefghijklmnopqrstuvwxyz"))) (paCons (pC (.int (8))) paNil))))))
def p_is_spec : Pd := runA none 1 (zRet (pAnd (pCall none p_is_tuple (paCons (pVar 0) (paCons (pC (.int 2)) paNil))) (pAnd (pCall none p_is_name (paCons (p2 dIx (pVar 0) (pC (.int 0))) paNil)) (p2 dIn (p2 dIx (pVar 0) (pC (.int 1))) (pT (paCons (pC (.str (Str.ofString "+"))) (paCons (pC (.str (Str.ofString "-"))) paNil)))))))
def p_are_specs : Pd := runA none 1 (zRet (pAnd (pIsi "tuple" (pVar 0)) (pAllG false 1 [] (piSeq (pVar 0)) (pgN 0) qYs (pCall none p_is_spec (paCons (pVar 0) paNil)))))
def z_is_entry_0 : Ps := zCons (zAsg (pFz 0) (pgT 2 (pgsCons (pgN 1) (pgsCons (pgN 2) pgsNil)))) (zRet (pAnd (pCall none p_is_name (paCons (pVar 1) paNil)) (pAnd (pCall none p_are_specs (paCons (pVar 2) paNil)) (p3 dLe dLe (pC (.int 1)) (p1 dLen (pVar 2)) (pC (.int (4)))))))
def z_is_entry_1 : Ps := zCons (zIf (qN (qV (pCall none p_is_tuple (paCons (pVar 0) (paCons (pC (.int 2)) paNil))))) (zRet (pC (.bl false))) zNil) z_is_entry_0
def p_is_entry : Pd := runA none 3 z_is_entry_1
def z_is_stock_0 : Ps := zCons (zIf (qN (qV (pAllG false 1 [] (piSeq (pVar 0)) (pgN 0) qYs (pCall none p_is_entry (paCons (pFz 0) paNil))))) (zRet (pC (.bl false))) zNil) (zRet (pCall none p_rises (paCons (pLc [1] (piSeq (pVar 0)) (pgN 1) qYs (p2 dIx (pVar 1) (pC (.int 0)))) paNil)))
def z_is_stock_1 : Ps := zCons (zIf (qO (qN (qV (pIsi "tuple" (pVar 0)))) (qN (qV (p3 dLe dLe (pC (.int 1)) (p1 dLen (pVar 0)) (pC (.int (8))))))) (zRet (pC (.bl false))) zNil) z_is_stock_0
def p_is_stock : Pd := runA none 2 z_is_stock_1
def z_show_spec_0 : Ps := zCons (zAsg (pFz 0) (pgT 2 (pgsCons (pgN 1) (pgsCons (pgN 2) pgsNil)))) (zRet (p2 dAdd (pVar 2) (pVar 1)))
def p_show_spec : Pd := runA none 3 z_show_spec_0
def p_read_spec : Pd := runA none 1 (zRet (pT (paCons (pK (pSl (pVar 0) (poS (pC (.int 1))) poN)) (paCons (pK (pSl (pVar 0) poN (poS (pC (.int 1))))) paNil))))
def p_show_kind : Pd := runA none 3 (zRet (p2 dJoin (pC (.str (Str.ofString " "))) (p2 dAdd (pL (paCons (pFz 0) (paCons (pC (.str (Str.ofString "="))) paNil))) (pLc [2] (piSeq (pVar 1)) (pgN 2) qYs (pK (pCall none p_show_spec (paCons (pFz 2) paNil)))))))
def z_read_kind_0 : Ps := zCons (zSet 2 (pT (paCons (p2 dIx (pVar 1) (pC (.int 0))) (paCons (pK (pColG dFinT 1 [] (piSeq (pSl (pVar 1) (poS (pC (.int 2))) poN)) (pgN 0) qYs (pK (pCall none p_read_spec (paCons (pVar 0) paNil))))) paNil)))) (zRet (pIf (qAn (qV (p2 dEq (pSl (pVar 1) (poS (pC (.int 1))) (poS (pC (.int 2)))) (pL (paCons (pC (.str (Str.ofString "="))) paNil)))) (qV (pCall none p_is_entry (paCons (pFz 2) paNil)))) (pFz 2) (pC .non)))
def z_read_kind_1 : Ps := zCons (zSet 1 (p2 dSplit (pVar 0) (pC (.str (Str.ofString " "))))) z_read_kind_0
def p_read_kind : Pd := runA none 3 z_read_kind_1
def z_read_stock_0 : Ps := zCons (zIf (qN (qV (pCall none p_is_stock (paCons (pVar 3) paNil)))) (zRaiseM "NoStock") zNil) (zRetV 3)
def z_read_stock_1 : Ps := zCons (zSet 3 (p1 dTuple (p1 dSortedX (pVar 1)))) z_read_stock_0
def z_read_stock_2 : Ps := zCons (zFor (piEnum (pVar 2)) (pgT 2 (pgsCons (pgN 4) (pgsCons (pgN 6) pgsNil))) (zIf (qV (p2 dIn (pVar 6) (pSl (pVar 2) poN (poS (pVar 4))))) (zRaiseF "Twice" "name" (pFz 6)) zNil)) z_read_stock_1
def z_read_stock_3 : Ps := zCons (zSet 2 (pLc [5] (piSeq (pVar 1)) (pgN 5) qYs (p2 dIx (pVar 5) (pC (.int 0))))) z_read_stock_2
def z_read_stock_4 : Ps := zCons (zFor (piEnum (pVar 1)) (pgT 2 (pgsCons (pgN 4) (pgsCons (pgN 5) pgsNil))) (zIf (qV (p2 dIs (pVar 5) (pC .non))) (zRaiseF "NoText" "at" (pFz 4)) zNil)) z_read_stock_3
def z_read_stock_5 : Ps := zCons (zSet 1 (pLc [7] (piSeq (pVar 0)) (pgN 7) qYs (pK (pCall none p_read_kind (paCons (pVar 7) paNil))))) z_read_stock_4
def p_read_stock : Pd := runA none 8 z_read_stock_5
def z_law_asked_6 : Ps := zCons (zTry (zSetX 1 (pCall none p_read_stock (paCons (pVar 0) paNil))) (csTwo (csOf cst_law_asked_0) (csTwo (csOf cst_law_asked_1) (csOf cst_law_asked_2))) (qTwo (csOf cst_law_asked_0) (qKindsAt 4 2 3 "at" (kbOf kbt_law_asked_0)) (qTwo (csOf cst_law_asked_1) (qKindsAt 4 2 3 "name" (kbOf kbt_law_asked_1)) (qKinds 4 2 (kbOf kbt_law_asked_2))))) (zRet (pT (paCons (pFz 1) (paCons (pFz 2) (paCons (pFz 3) paNil)))))
def z_law_asked_7 : Ps := zCons (zSet 3 (pC .non)) z_law_asked_6
def z_law_asked_8 : Ps := zCons (zSet 2 (pL paNil)) z_law_asked_7
def z_law_asked_9 : Ps := zCons (zSet 1 (pC .non)) z_law_asked_8
def p_law_asked : Pd := runA none 5 z_law_asked_9
def p_law_text : Pd := runA none 2 (zRet (p2 dJoin (pC (.str (Str.ofString " "))) (p2 dAdd (pL (paCons (p2 dIx (pVar 0) (pC (.int 0))) (paCons (pC (.str (Str.ofString "="))) paNil))) (pLc [1] (piSeq (p2 dIx (pVar 0) (pC (.int 1)))) (pgN 1) qYs (pK (p2 dAdd (p2 dIx (pVar 1) (pC (.int 1))) (p2 dIx (pVar 1) (pC (.int 0)))))))))
def z_law_bent_text_0 : Ps := zCons (zSet 8 (p2 dAdd (pVar 8) (pL (paCons (pK (p2 dJoin (pC (.str (Str.ofString " "))) (p2 dAdd (p2 dAdd (pSl (pVar 5) poN (poS (pVar 6))) (pL (paCons (pFz 7) paNil))) (pSl (pVar 5) (poS (pVar 6)) poN)))) (paCons (pK (p2 dJoin (pC (.str (Str.ofString " "))) (pSl (pVar 5) poN (poS (pC (.int 2)))))) (paCons (pK (p2 dAdd (pVar 1) (pC (.str (Str.ofString " +n -n +n -n"))))) paNil)))))) (zRet (p2 dIx (p2 dAdd (pVar 8) (pL (paCons (pK (p2 dAdd (pVar 1) (pC (.str (Str.ofString " +nn"))))) (paCons (pC (.str (Str.ofString ""))) paNil)))) (pCall (some 0) Cm.p_law_take (paCons (pVar 0) (paCons (pC (.int 11)) paNil)))))
def z_law_bent_text_1 : Ps := zCons (zSet 8 (p2 dAdd (pVar 8) (pL (paCons (pK (p2 dJoin (pC (.str (Str.ofString " "))) (p2 dAdd (p2 dAdd (pSl (pVar 5) poN (poS (pVar 6))) (pL (paCons (pFz 7) paNil))) (pSl (pVar 5) (poS (p2 dAdd (pVar 6) (pC (.int 1)))) poN)))) (paCons (pK (p2 dJoin (pC (.str (Str.ofString " "))) (p2 dAdd (pSl (pVar 5) poN (poS (pVar 6))) (pSl (pVar 5) (poS (p2 dAdd (pVar 6) (pC (.int 1)))) poN)))) paNil))))) z_law_bent_text_0
def z_law_bent_text_2 : Ps := zCons (zSet 8 (pL (paCons (pK (p2 dAdd (p2 dAdd (pSl (pVar 1) poN (poS (pVar 4))) (pVar 3)) (pSl (pVar 1) (poS (pVar 4)) poN))) (paCons (pK (p2 dAdd (pSl (pVar 1) poN (poS (pVar 4))) (pSl (pVar 1) (poS (p2 dAdd (pVar 4) (pC (.int 1)))) poN))) (paCons (pK (p2 dAdd (p2 dAdd (pSl (pVar 1) poN (poS (pVar 4))) (pVar 3)) (pSl (pVar 1) (poS (p2 dAdd (pVar 4) (pC (.int 1)))) poN))) (paCons (pK (pSl (pVar 1) poN (poS (pVar 4)))) paNil)))))) z_law_bent_text_1
def z_law_bent_text_3 : Ps := zCons (zSet 7 (p2 dIx (pL (paCons (pC (.str (Str.ofString ""))) (paCons (pC (.str (Str.ofString "="))) (paCons (pC (.str (Str.ofString "+n"))) (paCons (pC (.str (Str.ofString "-net"))) (paCons (pC (.str (Str.ofString "n"))) (paCons (pC (.str (Str.ofString "+"))) (paCons (pC (.str (Str.ofString "+N"))) (paCons (pC (.str (Str.ofString "++n"))) (paCons (pC (.str (Str.ofString "*n"))) (paCons (pC (.str (Str.ofString "add"))) (paCons (pC (.str (Str.ofString "abcdefghi"))) (paCons (pC (.str (Str.ofString "+abcdefghi"))) paNil))))))))))))) (pCall (some 0) Cm.p_law_take (paCons (pVar 0) (paCons (pC (.int 12)) paNil))))) z_law_bent_text_2
def z_law_bent_text_4 : Ps := zCons (zSet 6 (pCall (some 0) Cm.p_law_take (paCons (pVar 0) (paCons (p1 dLen (pVar 5)) paNil)))) z_law_bent_text_3
def z_law_bent_text_5 : Ps := zCons (zSet 5 (p2 dSplit (pVar 1) (pC (.str (Str.ofString " "))))) z_law_bent_text_4
def z_law_bent_text_6 : Ps := zCons (zSet 4 (pCall (some 0) Cm.p_law_take (paCons (pVar 0) (paCons (p2 dAdd (p1 dLen (pVar 1)) (pC (.int 1))) paNil)))) z_law_bent_text_5
def z_law_bent_text_7 : Ps := zCons (zSet 3 (p2 dIx (pVar 2) (pCall (some 0) Cm.p_law_take (paCons (pVar 0) (paCons (p1 dLen (pVar 2)) paNil))))) z_law_bent_text_6
def z_law_bent_text_8 : Ps := zCons (zSet 2 (p2 dAdd (pC (.str (Str.ofString " =+-0nzA_"))) (pVar 1))) z_law_bent_text_7
def p_law_bent_text : Pd := runA (some 0) 9 z_law_bent_text_8
def z_law_bent_0 : Ps := zCons (zSet 4 (p2 dIx (pL (paCons (p2 dIx (pVar 1) (pVar 3)) (paCons (pK (p2 dAdd (p2 dIx (pVar 1) (pVar 3)) (pC (.str (Str.ofString " +n"))))) (paCons (pK (p2 dAdd (p2 dIx (p2 dSplit (p2 dIx (pVar 1) (pVar 3)) (pC (.str (Str.ofString " ")))) (pC (.int 0))) (pC (.str (Str.ofString " = -n"))))) paNil)))) (pCall (some 0) Cm.p_law_take (paCons (pVar 0) (paCons (pC (.int 3)) paNil))))) (zRet (p2 dAdd (p2 dAdd (pSl (pVar 1) poN (poS (pCall (some 0) Cm.p_law_take (paCons (pVar 0) (paCons (p2 dAdd (p1 dLen (pVar 1)) (pC (.int 1))) paNil))))) (pL (paCons (pFz 4) paNil))) (pVar 1)))
def z_law_bent_1 : Ps := zCons (zSet 5 (pLc [6] (piSeq (pSl (pC (.str (Str.ofString "abcdefgh"))) poN (poS (p2 dSub (p2 dIx (pL (paCons (pC (.int 8)) (paCons (pC (.int 9)) paNil))) (pCall (some 0) Cm.p_law_take (paCons (pVar 0) (paCons (pC (.int 2)) paNil)))) (p1 dLen (pVar 1)))))) (pgN 6) qYs (pK (p2 dAdd (p2 dAdd (pC (.str (Str.ofString "zz"))) (pVar 6)) (pC (.str (Str.ofString " = +n"))))))) (zRet (pIf (qV (p2 dEq (pCall (some 0) Cm.p_law_take (paCons (pVar 0) (paCons (pC (.int 2)) paNil))) (pC (.int 0)))) (pK (p2 dAdd (pVar 1) (pVar 5))) (pK (p2 dAdd (pVar 5) (pVar 1)))))
def z_law_bent_2 : Ps := zCons (zIf (qV (p2 dEq (pVar 2) (pC (.int 4)))) z_law_bent_1 zNil) (zRet (p2 dIx (pL (paCons (pK (pL paNil)) (paCons (pK (pSl (pVar 1) (poS (pVar 3)) poN)) (paCons (pK (p2 dAdd (pVar 1) (pVar 1))) (paCons (pK (pLc [7] (piSeq (pVar 1)) (pgN 7) qYs (pK (pCall (some 0) p_law_bent_text (paCons (pVar 0) (paCons (pVar 7) paNil)))))) paNil))))) (pCall (some 0) Cm.p_law_take (paCons (pVar 0) (paCons (pC (.int 4)) paNil)))))
def z_law_bent_3 : Ps := zCons (zIf (qV (p2 dEq (pVar 2) (pC (.int 3)))) z_law_bent_0 zNil) z_law_bent_2
def z_law_bent_4 : Ps := zCons (zIf (qV (p2 dLt (pVar 2) (pC (.int 3)))) (zRet (p2 dAdd (p2 dAdd (pSl (pVar 1) poN (poS (pVar 3))) (pL (paCons (pK (pCall (some 0) p_law_bent_text (paCons (pVar 0) (paCons (p2 dIx (pVar 1) (pVar 3)) paNil)))) paNil))) (pSl (pVar 1) (poS (p2 dAdd (pVar 3) (pC (.int 1)))) poN))) zNil) z_law_bent_3
def z_law_bent_5 : Ps := zCons (zSet 3 (pCall (some 0) Cm.p_law_take (paCons (pVar 0) (paCons (p1 dLen (pVar 1)) paNil)))) z_law_bent_4
def z_law_bent_6 : Ps := zCons (zSet 2 (pCall (some 0) Cm.p_law_take (paCons (pVar 0) (paCons (pC (.int 6)) paNil)))) z_law_bent_5
def p_law_bent : Pd := runA (some 0) 8 z_law_bent_6
def p_law_name : Pd := runA none 2 (zRet (pAnd (p3 dLe dLe (pC (.int 1)) (p1 dLen (pVar 0)) (pC (.int 8))) (p2 dEq (p1 dLen (pLc [1] (piSeq (pVar 0)) (pgN 1) (qV (p2 dNotIn (pVar 1) (pC (.str (Str.ofString "abcdefghijklmnopqrstuvwxyz"))))) (pFz 1))) (pC (.int 0)))))
def z_law_row_0 : Ps := zCons (zFor (piSeq (pSl (pVar 1) (poS (pC (.int 2))) poN)) (pgN 2) (zIf (qO (qV (p2 dNotIn (pSl (pVar 2) poN (poS (pC (.int 1)))) (pL (paCons (pC (.str (Str.ofString "+"))) (paCons (pC (.str (Str.ofString "-"))) paNil))))) (qN (qV (pCall none p_law_name (paCons (pSl (pVar 2) (poS (pC (.int 1))) poN) paNil))))) (zRet (pC .non)) zNil)) (zRet (pT (paCons (p2 dIx (pVar 1) (pC (.int 0))) (paCons (pK (p1 dTuple (pLc [2] (piSeq (pSl (pVar 1) (poS (pC (.int 2))) poN)) (pgN 2) qYs (pT (paCons (pK (pSl (pVar 2) (poS (pC (.int 1))) poN)) (paCons (pK (pSl (pVar 2) poN (poS (pC (.int 1))))) paNil)))))) paNil))))
def z_law_row_1 : Ps := zCons (zIf (qO (qN (qV (p3 dLe dLe (pC (.int 3)) (p1 dLen (pVar 1)) (pC (.int 6))))) (qO (qV (p2 dNe (p2 dIx (pVar 1) (pC (.int 1))) (pC (.str (Str.ofString "="))))) (qN (qV (pCall none p_law_name (paCons (p2 dIx (pVar 1) (pC (.int 0))) paNil)))))) (zRet (pC .non)) zNil) z_law_row_0
def z_law_row_2 : Ps := zCons (zSet 1 (p2 dSplit (pVar 0) (pC (.str (Str.ofString " "))))) z_law_row_1
def p_law_row : Pd := runA none 3 z_law_row_2
def z_law_due_0 : Ps := zCons (zIf (qN (qV (p3 dLe dLe (pC (.int 1)) (p1 dLen (pVar 1)) (pC (.int 8))))) (zRet (pT (paCons (pC .non) (paCons (pC (.int 2)) (paCons (pC .non) paNil))))) zNil) (zRet (pT (paCons (pK (p1 dTuple (p1 dSortedX (pVar 1)))) (paCons (pC .non) (paCons (pC .non) paNil)))))
def z_law_due_1 : Ps := zCons (zIf (qV (p2 dNe (pVar 4) (pL paNil))) (zRet (pT (paCons (pC .non) (paCons (pC (.int 1)) (paCons (p2 dIx (pVar 3) (p2 dIx (pVar 4) (pC (.int 0)))) paNil))))) zNil) z_law_due_0
def z_law_due_2 : Ps := zCons (zSet 4 (pLc [6] (piR1 (p1 dLen (pVar 1))) (pgN 6) (qV (p2 dIn (p2 dIx (pVar 3) (pVar 6)) (pSl (pVar 3) poN (poS (pVar 6))))) (pFz 6))) z_law_due_1
def z_law_due_3 : Ps := zCons (zSet 3 (pLc [7] (piSeq (pVar 1)) (pgN 7) qYs (p2 dIx (pVar 7) (pC (.int 0))))) z_law_due_2
def z_law_due_4 : Ps := zCons (zIf (qV (p2 dNe (pVar 2) (pL paNil))) (zRet (pT (paCons (pC .non) (paCons (pC (.int 0)) (paCons (p2 dIx (pVar 2) (pC (.int 0))) paNil))))) zNil) z_law_due_3
def z_law_due_5 : Ps := zCons (zSet 2 (pLc [6] (piR1 (p1 dLen (pVar 1))) (pgN 6) (qV (p2 dIs (p2 dIx (pVar 1) (pVar 6)) (pC .non))) (pFz 6))) z_law_due_4
def z_law_due_6 : Ps := zCons (zSet 1 (pLc [5] (piSeq (pVar 0)) (pgN 5) qYs (pK (pCall none p_law_row (paCons (pVar 5) paNil))))) z_law_due_5
def p_law_due : Pd := runA none 8 z_law_due_6
def z_law_0 : Ps := zCons (zSet 8 (pCall none p_show_kind (paCons (p2 dIx (pVar 4) (pC (.int 0))) (paCons (p2 dIx (pVar 4) (pC (.int 1))) paNil)))) (zIf (qO (qN (qV (pIsi "str" (pVar 8)))) (qV (p2 dNe (pVar 8) (pCall none p_law_text (paCons (pVar 4) paNil))))) (zRet (pC (.bl false))) zNil)
def z_law_1 : Ps := zCons (zSet 10 (pIf (qV (p2 dIsNot (pVar 13) (pC .non))) (pK (p2 dAdd (pLc [11] (piR1 (pC (.int 9))) (pgN 11) qYs (p2 dEq (pVar 11) (pVar 13))) (pL (paCons (pC (.bl true)) paNil)))) (pK (pL paNil)))) (zIf (qO (qV (p2 dNe (pVar 8) (pT (paCons (pFz 12) (paCons (pFz 10) (paCons (pFz 14) paNil)))))) (qO (qV (pIsi "bool" (p2 dIx (pVar 8) (pC (.int 2))))) (qV (p2 dNe (pVar 9) (pVar 7))))) (zRet (pC (.bl false))) zNil)
def z_law_2 : Ps := zCons (zSet 8 (pNx (pCall none p_law_asked (paCons (pVar 9) paNil)))) z_law_1
def z_law_3 : Ps := zCons (zAsg (pK (pCall none p_law_due (paCons (pVar 7) paNil))) (pgT 3 (pgsCons (pgN 12) (pgsCons (pgN 13) (pgsCons (pgN 14) pgsNil))))) z_law_2
def z_law_4 : Ps := zCons (zSet 9 (p1 dList (pVar 7))) z_law_3
def z_law_5 : Ps := zCons (zSet 6 (pCallT 0 p_law_bent (paCons (pCall none Cm.p_law_digits (paCons (pVar 0) (paCons (p2 dAdd (pVar 1) (pC (.int 1))) paNil))) (paCons (pVar 5) paNil)))) (zFor (piSeq (pL (paCons (pFz 5) (paCons (pFz 6) paNil)))) (pgN 7) z_law_4)
def z_law_6 : Ps := zCons (zSet 5 (pLc [11] (piSeq (pCall (some 0) Cm.p_law_order (paCons (pVar 2) (paCons (p1 dLen (pVar 3)) paNil)))) (pgN 11) qYs (pK (pCall none p_law_text (paCons (p2 dIx (pVar 3) (pVar 11)) paNil))))) z_law_5
def z_law_7 : Ps := zCons (zFor (piSeq (pVar 3)) (pgN 4) z_law_0) z_law_6
def z_law_8 : Ps := zCons (zSet 3 (pCall (some 0) Cm.p_law_stock (paCons (pVar 2) paNil))) z_law_7
def z_law_9 : Ps := zCons (zSet 2 (pCall none Cm.p_law_digits (paCons (pVar 0) (paCons (pVar 1) paNil)))) z_law_8
def z_law_10 : Ps := zCons (zFor (piR3 (pC (.int 0)) (pMax (pC (.int 1)) (p1 dLen (pVar 0))) (pC (.int 2))) (pgN 1) z_law_9) (zRet (pC (.bl true)))
def p_law : Pd := runA none 15 z_law_10
end K06
namespace K02
open PySem PySem.Spec PyProof.Rows L2 NdefX GenE Sh Pu
open GxR (TabB TabG Tabbed)
def p_is_tuple : Pd := runA none 2 (zRet (pAnd (pIsi "tuple" (pVar 0)) (p2 dEq (p1 dLen (pVar 0)) (pVar 1))))
def p_rises : Pd := runA none 1 (zRet (pAllG false 1 [0] (piR1 (p2 dSub (p1 dLen (pVar 0)) (pC (.int 1)))) (pgN 0) qYs (p2 dLtD (p2 dIx (pVar 1) (pVar 0)) (p2 dIx (pVar 1) (p2 dAdd (pVar 0) (pC (.int 1)))))))
def p_is_spelled : Pd := runA none 3 (zRet (pAnd (p3 dLe dLe (pC (.int 1)) (p1 dLen (pVar 0)) (pVar 2)) (pAllG false 1 [1] (piSeq (pVar 0)) (pgN 0) qYs (p2 dIn (pVar 0) (pVar 1)))))
def p_is_name : Pd := runA none 1 (zRet (pAnd (pIsi "str" (pVar 0)) (pCall none p_is_spelled (paCons (pVar 0) (paCons (pC (.str (Str.ofString "abcdefghijklmnopqrstuvwxyz"))) (paCons (pC (.int (8))) paNil))))))
def p_is_spec : Pd := runA none 1 (zRet (pAnd (pCall none p_is_tuple (paCons (pVar 0) (paCons (pC (.int 2)) paNil))) (pAnd (pCall none p_is_name (paCons (p2 dIx (pVar 0) (pC (.int 0))) paNil)) (p2 dIn (p2 dIx (pVar 0) (pC (.int 1))) (pT (paCons (pC (.str (Str.ofString "+"))) (paCons (pC (.str (Str.ofString "-"))) paNil)))))))
def p_are_specs : Pd := runA none 1 (zRet (pAnd (pIsi "tuple" (pVar 0)) (pAllG false 1 [] (piSeq (pVar 0)) (pgN 0) qYs (pCall none p_is_spec (paCons (pVar 0) paNil)))))
def z_mate_of_0 : Ps := zCons (zAsg (pFz 0) (pgT 2 (pgsCons (pgN 1) (pgsCons (pgN 2) pgsNil)))) (zRet (pT (paCons (pFz 1) (paCons (pIf (qV (p2 dEq (pVar 2) (pC (.str (Str.ofString "+"))))) (pC (.str (Str.ofString "-"))) (pC (.str (Str.ofString "+")))) paNil))))
def p_mate_of : Pd := runA none 3 z_mate_of_0
def p_is_end : Pd := runA none 1 (zRet (pAnd (pCall none p_is_tuple (paCons (pVar 0) (paCons (pC (.int 2)) paNil))) (pCall none Cm.p_are_whole (paCons (pVar 0) paNil))))
def p_is_pair : Pd := runA none 1 (zRet (pAnd (pCall none p_is_tuple (paCons (pVar 0) (paCons (pC (.int 2)) paNil))) (pAnd (pCall none p_is_end (paCons (p2 dIx (pVar 0) (pC (.int 0))) paNil)) (pCall none p_is_end (paCons (p2 dIx (pVar 0) (pC (.int 1))) paNil)))))
def z_are_kinds_0 : Ps := zCons (zSet 2 (pLc [3, 4] (piSeq (pVar 0)) (pgT 2 (pgsCons (pgN 3) (pgsCons (pgN 4) pgsNil))) qYs (pFz 3))) (zRet (pAnd (pIsi "tuple" (pVar 1)) (pAllG false 1 [2] (piSeq (pVar 1)) (pgN 0) qYs (p2 dIn (pVar 0) (pVar 1)))))
def p_are_kinds : Pd := runA none 5 z_are_kinds_0
def z_are_wires_0 : Ps := zCons (zIf (qO (qN (qV (pIsi "tuple" (pVar 0)))) (qN (qV (pAllG false 1 [] (piSeq (pVar 0)) (pgN 0) qYs (pCall none p_is_pair (paCons (pVar 0) paNil)))))) (zRet (pC (.bl false))) zNil) (zRet (pAnd (pCall none p_rises (paCons (pVar 0) paNil)) (pAllG false 2 [] (piSeq (pVar 0)) (pgT 2 (pgsCons (pgN 0) (pgsCons (pgN 1) pgsNil))) qYs (p2 dLt (pVar 0) (pVar 1)))))
def p_are_wires : Pd := runA none 1 z_are_wires_0
def p_is_ring : Pd := runA none 1 (zRet (pAnd (pCall none p_is_tuple (paCons (pVar 0) (paCons (pC (.int 2)) paNil))) (pAnd (pCall none p_is_name (paCons (p2 dIx (pVar 0) (pC (.int 0))) paNil)) (pAnd (pCall none Cm.p_is_whole (paCons (p2 dIx (pVar 0) (pC (.int 1))) paNil)) (p2 dGe (p2 dIx (pVar 0) (pC (.int 1))) (pC (.int 1)))))))
def z_are_rings_0 : Ps := zCons (zIf (qO (qN (qV (pIsi "tuple" (pVar 0)))) (qN (qV (pAllG false 1 [] (piSeq (pVar 0)) (pgN 0) qYs (pCall none p_is_ring (paCons (pVar 0) paNil)))))) (zRet (pC (.bl false))) zNil) (zRet (pCall none p_rises (paCons (pLc [1] (piSeq (pVar 0)) (pgN 1) qYs (p2 dIx (pVar 1) (pC (.int 0)))) paNil)))
def p_are_rings : Pd := runA none 2 z_are_rings_0
def z_ports_in_0 : Ps := zCons (zSet 2 (p1 dDict (pVar 0))) (zRet (pCp (.lst []) [3, 4, 5, 6] (piEnum (pVar 1)) (pgT 2 (pgsCons (pgN 3) (pgsCons (pgN 4) pgsNil))) qYs (pbTwo [5, 6] (piEnum (p2 dDG (pVar 2) (pVar 4))) (pgT 2 (pgsCons (pgN 5) (pgsCons (pgN 6) pgsNil))) qYs (pbApp (pT (paCons (pT (paCons (pFz 3) (paCons (pFz 5) paNil))) (paCons (pFz 6) paNil)))))))
def p_ports_in : Pd := runA none 7 z_ports_in_0
def z_ends_of_0 : Ps := zCons (zSet 2 (pLc [3, 4] (piEnum (p2 dIx (pVar 1) (pC (.int 0)))) (pgT 2 (pgsCons (pgN 3) (pgsCons (pgN 4) pgsNil))) qYs (pT (paCons (pT (paCons (pC (.int (-1))) (paCons (pFz 3) paNil))) (paCons (pFz 4) paNil))))) (zRet (p2 dAdd (pVar 2) (pCall none p_ports_in (paCons (pVar 0) (paCons (p2 dIx (pVar 1) (pC (.int 1))) paNil)))))
def p_ends_of : Pd := runA none 5 z_ends_of_0
def z_is_joined_0 : Ps := zCons (zIf (qV (p2 dNe (pColG2 dFinS 2 [] [0, 1] (piSeq (pVar 3)) (pgN 0) qYs (pbTwo [1] (piSeq (pFz 0)) (pgN 1) qYs (pbApp (pFz 1)))) (p1 dListT (pVar 2)))) (zRet (pC (.bl false))) zNil) (zRet (pAllG false 2 [2] (piSeq (pVar 3)) (pgT 2 (pgsCons (pgN 0) (pgsCons (pgN 1) pgsNil))) qYs (p2 dEq (p2 dDG (pVar 2) (pVar 0)) (pCall none p_mate_of (paCons (p2 dDG (pVar 2) (pVar 1)) paNil)))))
def z_is_joined_1 : Ps := zCons (zSet 3 (p2 dIx (pVar 1) (pC (.int 2)))) z_is_joined_0
def z_is_joined_2 : Ps := zCons (zSet 2 (p1 dDictT (pCall none p_ends_of (paCons (pVar 0) (paCons (pVar 1) paNil))))) z_is_joined_1
def p_is_joined : Pd := runA none 4 z_is_joined_2
def z_is_net_0 : Ps := zCons (zIf (qO (qN (qV (pCall none p_are_specs (paCons (pVar 2) paNil)))) (qN (qV (pCall none p_are_kinds (paCons (pVar 0) (paCons (pVar 3) paNil)))))) (zRet (pC (.bl false))) zNil) (zRet (pAnd (pCall none p_are_wires (paCons (pVar 4) paNil)) (pAnd (pCall none p_are_rings (paCons (pVar 5) paNil)) (pCall none p_is_joined (paCons (pVar 0) (paCons (pVar 1) paNil))))))
def z_is_net_1 : Ps := zCons (zAsg (pFz 1) (pgT 4 (pgsCons (pgN 2) (pgsCons (pgN 3) (pgsCons (pgN 4) (pgsCons (pgN 5) pgsNil)))))) z_is_net_0
def z_is_net_2 : Ps := zCons (zIf (qN (qV (pCall none p_is_tuple (paCons (pVar 1) (paCons (pC (.int 4)) paNil))))) (zRet (pC (.bl false))) zNil) z_is_net_1
def p_is_net : Pd := runA none 6 z_is_net_2
def p_joined_to : Pd := runA none 2 (zRet (p2 dDG (pCall none Cm.p_links_of (paCons (p2 dIx (pVar 0) (pC (.int 2))) paNil)) (pVar 1)))
def z_law_net_0 : Ps := zCons (zEx (pApp 6 (pK (pCall none Cm.p_law_mate (paCons (pVar 14) paNil))))) (zEx (pApp 7 (pFz 16)))
def z_law_net_1 : Ps := zCons (zSet 13 (pLc [15] (piR1 (p1 dLen (pVar 5))) (pgN 15) (qV (p2 dEq (p2 dIx (p2 dIx (pVar 5) (pVar 15)) (pC (.int 1))) (pCall none Cm.p_law_mate (paCons (pVar 14) paNil)))) (pFz 15))) (zIf (qAn (qV (p2 dNe (pVar 13) (pL paNil))) (qV (p2 dGt (pCall (some 0) Cm.p_law_take (paCons (pVar 0) (paCons (pC (.int 4)) paNil))) (pC (.int 0))))) (zEx (pApp 3 (pT (paCons (pFz 16) (paCons (p2 dIx (pPop 5 (p2 dIx (pVar 13) (pCall (some 0) Cm.p_law_take (paCons (pVar 0) (paCons (p1 dLen (pVar 13)) paNil))))) (pC (.int 0))) paNil))))) z_law_net_0)
def z_law_net_2 : Ps := zCons (zAsg (pK (pPop 5 (pCall (some 0) Cm.p_law_take (paCons (pVar 0) (paCons (p1 dLen (pVar 5)) paNil))))) (pgT 2 (pgsCons (pgN 16) (pgsCons (pgN 14) pgsNil)))) z_law_net_1
def z_law_net_3 : Ps := zCons (zEx (pExt 7 (pL (paCons (pC .non) (paCons (pK (p1 dLen (pVar 6))) paNil))))) (zEx (pExt 6 (pL (paCons (pFz 14) (paCons (pK (pCall none Cm.p_law_mate (paCons (pVar 14) paNil))) paNil)))))
def z_law_net_4 : Ps := zCons (zSet 14 (pT (paCons (p2 dIx (pVar 8) (pCall (some 0) Cm.p_law_take (paCons (pVar 0) (paCons (p1 dLen (pVar 8)) paNil)))) (paCons (p2 dIx (pC (.str (Str.ofString "+-"))) (pCall (some 0) Cm.p_law_take (paCons (pVar 0) (paCons (pC (.int 2)) paNil)))) paNil)))) z_law_net_3
def z_law_net_5 : Ps := zCons (zAsg (pFz 14) (pgSb 11 (p2 dIx (pVar 10) (pVar 15)))) (zIf (qV (pIsi "int" (p2 dIx (pVar 7) (pVar 15)))) (zEx (pApp 3 (pT (paCons (pT (paCons (pNeg (pC (.int 1))) (paCons (p2 dIx (pVar 10) (pVar 15)) paNil))) (paCons (pT (paCons (pNeg (pC (.int 1))) (paCons (p2 dIx (pVar 10) (p2 dIx (pVar 7) (pVar 15))) paNil))) paNil))))) (zIf (qV (p2 dIsNot (p2 dIx (pVar 7) (pVar 15)) (pC .non))) (zEx (pApp 3 (pT (paCons (pT (paCons (pNeg (pC (.int 1))) (paCons (p2 dIx (pVar 10) (pVar 15)) paNil))) (paCons (p2 dIx (pVar 7) (pVar 15)) paNil))))) zNil))
def z_law_net_6 : Ps := zCons (zSet 12 (p1 dTuple (p1 dSortedX (pLc [17] (piSeq (pVar 3)) (pgN 17) qYs (pK (p1 dTuple (p1 dSortedX (pVar 17)))))))) (zRet (pT (paCons (pK (p1 dTuple (pVar 11))) (paCons (pK (p1 dTuple (pVar 2))) (paCons (pFz 12) (paCons (pK (pCall (some 0) Cm.p_law_rings (paCons (pVar 0) (paCons (pVar 8) paNil)))) paNil))))))
def z_law_net_7 : Ps := zCons (zFor (piEnum (pVar 6)) (pgT 2 (pgsCons (pgN 15) (pgsCons (pgN 14) pgsNil))) z_law_net_5) z_law_net_6
def z_law_net_8 : Ps := zCons (zSet 11 (pLc [14] (piSeq (pVar 6)) (pgN 14) qYs (pC .non))) z_law_net_7
def z_law_net_9 : Ps := zCons (zSet 10 (pCall (some 0) Cm.p_law_order (paCons (pVar 0) (paCons (p1 dLen (pVar 6)) paNil)))) z_law_net_8
def z_law_net_10 : Ps := zCons (zFor (piR1 (pVar 4)) (pgN 9) z_law_net_4) z_law_net_9
def z_law_net_11 : Ps := zCons (zSet 8 (p2 dAdd (pLc [14] (piSeq (p2 dDG (p1 dDict (pVar 1)) (p2 dIx (p2 dIx (pVar 1) (pC (.int 0))) (pC (.int 0))))) (pgN 14) qYs (p2 dIx (pVar 14) (pC (.int 0)))) (pL (paCons (pC (.str (Str.ofString "x"))) paNil)))) z_law_net_10
def z_law_net_12 : Ps := zCons (zWhile (qV (p2 dNe (pVar 5) (pL paNil))) z_law_net_2) z_law_net_11
def z_law_net_13 : Ps := zCons (zSet 7 (pL paNil)) z_law_net_12
def z_law_net_14 : Ps := zCons (zSet 6 (pL paNil)) z_law_net_13
def z_law_net_15 : Ps := zCons (zSet 5 (pCall none Cm.p_law_free (paCons (pVar 1) (paCons (pVar 2) (paCons (pVar 3) paNil))))) z_law_net_14
def z_law_net_16 : Ps := zCons (zSet 3 (p1 dList (pVar 3))) z_law_net_15
def p_law_net : Pd := runA (some 0) 18 z_law_net_16
def z_law_name_0 : Ps := zCons (zIf (qO (qN (qV (pIsi "str" (pVar 0)))) (qO (qV (p2 dEq (p1 dLen (pVar 0)) (pC (.int 0)))) (qV (p2 dGt (p1 dLen (pVar 0)) (pC (.int 8)))))) (zRet (pC (.bl false))) zNil) (zRet (p2 dEq (p1 dLen (pLc [1] (piSeq (pVar 0)) (pgN 1) (qV (p2 dNotIn (pVar 1) (pC (.str (Str.ofString "abcdefghijklmnopqrstuvwxyz"))))) (pFz 1))) (pC (.int 0))))
def p_law_name : Pd := runA none 2 z_law_name_0
def z_law_spec_0 : Ps := zCons (zIf (qO (qN (qV (pIsi "tuple" (pVar 0)))) (qO (qV (p2 dNe (p1 dLen (pVar 0)) (pC (.int 2)))) (qN (qV (pCall none p_law_name (paCons (p2 dIx (pVar 0) (pC (.int 0))) paNil)))))) (zRet (pC (.bl false))) zNil) (zRet (pOr (p2 dEq (p2 dIx (pVar 0) (pC (.int 1))) (pC (.str (Str.ofString "+")))) (p2 dEq (p2 dIx (pVar 0) (pC (.int 1))) (pC (.str (Str.ofString "-"))))))
def p_law_spec : Pd := runA none 1 z_law_spec_0
def z_law_ends_0 : Ps := zCons (zFor (piEnum (p2 dIx (pVar 1) (pC (.int 1)))) (pgT 2 (pgsCons (pgN 4) (pgsCons (pgN 5) pgsNil))) (zEx (pExt 3 (pLc [8, 7] (piEnum (p2 dDG (pVar 2) (pVar 5))) (pgT 2 (pgsCons (pgN 8) (pgsCons (pgN 7) pgsNil))) qYs (pT (paCons (pT (paCons (pFz 4) (paCons (pFz 8) paNil))) (paCons (pFz 7) paNil))))))) (zRetV 3)
def z_law_ends_1 : Ps := zCons (zSet 3 (pLc [6, 7] (piEnum (p2 dIx (pVar 1) (pC (.int 0)))) (pgT 2 (pgsCons (pgN 6) (pgsCons (pgN 7) pgsNil))) qYs (pT (paCons (pT (paCons (pNeg (pC (.int 1))) (paCons (pFz 6) paNil))) (paCons (pFz 7) paNil))))) z_law_ends_0
def z_law_ends_2 : Ps := zCons (zSet 2 (p1 dDict (pVar 0))) z_law_ends_1
def p_law_ends : Pd := runA none 9 z_law_ends_2
def z_law_pair_0 : Ps := zCons (zFor (piSeq (pVar 0)) (pgN 1) (zIf (qO (qN (qV (pIsi "tuple" (pVar 1)))) (qO (qV (p2 dNe (p1 dLen (pVar 1)) (pC (.int 2)))) (qO (qN (qV (pCall none Cm.p_is_whole (paCons (p2 dIx (pVar 1) (pC (.int 0))) paNil)))) (qN (qV (pCall none Cm.p_is_whole (paCons (p2 dIx (pVar 1) (pC (.int 1))) paNil))))))) (zRet (pC (.bl false))) zNil)) (zRet (p2 dLtD (p2 dIx (pVar 0) (pC (.int 0))) (p2 dIx (pVar 0) (pC (.int 1)))))
def z_law_pair_1 : Ps := zCons (zIf (qO (qN (qV (pIsi "tuple" (pVar 0)))) (qV (p2 dNe (p1 dLen (pVar 0)) (pC (.int 2))))) (zRet (pC (.bl false))) zNil) z_law_pair_0
def p_law_pair : Pd := runA none 2 z_law_pair_1
def z_law_wires_right_0 : Ps := zCons (zEx (pExt 3 (pL (paCons (pFz 4) (paCons (pFz 5) paNil))))) (zIf (qO (qV (p2 dDNotIn (pVar 4) (pVar 2))) (qO (qV (p2 dDNotIn (pVar 5) (pVar 2))) (qV (p2 dNe (p2 dDG (pVar 2) (pVar 4)) (pCall none Cm.p_law_mate (paCons (p2 dDG (pVar 2) (pVar 5)) paNil)))))) (zRet (pC (.bl false))) zNil)
def z_law_wires_right_1 : Ps := zCons (zFor (piSeq (p2 dIx (pVar 1) (pC (.int 2)))) (pgT 2 (pgsCons (pgN 4) (pgsCons (pgN 5) pgsNil))) z_law_wires_right_0) (zRet (pAnd (p2 dEq (p1 dSortedX (pVar 3)) (p1 dSortT (pVar 2))) (p2 dEq (p1 dList (p2 dIx (pVar 1) (pC (.int 2)))) (p1 dSortedX (p2 dIx (pVar 1) (pC (.int 2)))))))
def z_law_wires_right_2 : Ps := zCons (zSet 3 (pL paNil)) z_law_wires_right_1
def z_law_wires_right_3 : Ps := zCons (zIf (qO (qN (qV (pIsi "tuple" (p2 dIx (pVar 1) (pC (.int 2)))))) (qN (qV (p1 dAll (pLc [6] (piSeq (p2 dIx (pVar 1) (pC (.int 2)))) (pgN 6) qYs (pK (pCall none p_law_pair (paCons (pVar 6) paNil)))))))) (zRet (pC (.bl false))) zNil) z_law_wires_right_2
def z_law_wires_right_4 : Ps := zCons (zSet 2 (p1 dDictT (pCall none p_law_ends (paCons (pVar 0) (paCons (pVar 1) paNil))))) z_law_wires_right_3
def p_law_wires_right : Pd := runA none 7 z_law_wires_right_4
def z_law_rings_right_0 : Ps := zCons (zIf (qO (qN (qV (pIsi "tuple" (pVar 1)))) (qO (qV (p2 dNe (p1 dLen (pVar 1)) (pC (.int 2)))) (qO (qN (qV (pCall none p_law_name (paCons (p2 dIx (pVar 1) (pC (.int 0))) paNil)))) (qN (qV (pCall none Cm.p_is_whole (paCons (p2 dIx (pVar 1) (pC (.int 1))) paNil))))))) (zRet (pC (.bl false))) zNil) (zIf (qV (p2 dLt (p2 dIx (pVar 1) (pC (.int 1))) (pC (.int 1)))) (zRet (pC (.bl false))) zNil)
def z_law_rings_right_1 : Ps := zCons (zSet 2 (pLc [1] (piSeq (pVar 0)) (pgN 1) qYs (p2 dIx (pVar 1) (pC (.int 0))))) (zRet (pAnd (p2 dEq (pVar 2) (p1 dSortedX (pVar 2))) (p2 dEq (pLenSetX (pVar 2)) (p1 dLen (pVar 2)))))
def z_law_rings_right_2 : Ps := zCons (zFor (piSeq (pVar 0)) (pgN 1) z_law_rings_right_0) z_law_rings_right_1
def z_law_rings_right_3 : Ps := zCons (zIf (qN (qV (pIsi "tuple" (pVar 0)))) (zRet (pC (.bl false))) zNil) z_law_rings_right_2
def p_law_rings_right : Pd := runA none 3 z_law_rings_right_3
def z_law_right_0 : Ps := zCons (zIf (qO (qN (qV (pIsi "tuple" (p2 dIx (pVar 1) (pC (.int 1)))))) (qN (qV (p1 dAll (pLc [5] (piSeq (p2 dIx (pVar 1) (pC (.int 1)))) (pgN 5) qYs (pAnd (pIsi "str" (pVar 5)) (p2 dIn (pVar 5) (pVar 2)))))))) (zRet (pC (.bl false))) zNil) (zRet (pAnd (pCall none p_law_wires_right (paCons (pVar 0) (paCons (pVar 1) paNil))) (pCall none p_law_rings_right (paCons (p2 dIx (pVar 1) (pC (.int 3))) paNil))))
def z_law_right_1 : Ps := zCons (zSet 2 (pLc [3] (piSeq (pVar 0)) (pgN 3) qYs (p2 dIx (pVar 3) (pC (.int 0))))) z_law_right_0
def z_law_right_2 : Ps := zCons (zIf (qO (qN (qV (pIsi "tuple" (p2 dIx (pVar 1) (pC (.int 0)))))) (qN (qV (p1 dAll (pLc [4] (piSeq (p2 dIx (pVar 1) (pC (.int 0)))) (pgN 4) qYs (pK (pCall none p_law_spec (paCons (pVar 4) paNil)))))))) (zRet (pC (.bl false))) zNil) z_law_right_1
def z_law_right_3 : Ps := zCons (zIf (qO (qN (qV (pIsi "tuple" (pVar 1)))) (qV (p2 dNe (p1 dLen (pVar 1)) (pC (.int 4))))) (zRet (pC (.bl false))) zNil) z_law_right_2
def p_law_right : Pd := runA none 6 z_law_right_3
def p_law_put : Pd := runA none 3 (zRet (p2 dAdd (p2 dAdd (pSl (pVar 0) poN (poS (pVar 1))) (pVar 2)) (pSl (pVar 0) (poS (p2 dAdd (pVar 1) (pC (.int 1)))) poN)))
def z_law_bent_wires_0 : Ps := zCons (zEx (pApp 6 (pK (pCall none p_law_put (paCons (pVar 1) (paCons (pVar 2) (paCons (pT (paCons (pT (paCons (pK (p1 dList (pVar 7))) (paCons (pFz 8) paNil))) paNil)) paNil))))))) (zRet (p2 dIx (pVar 6) (pCall (some 0) Cm.p_law_take (paCons (pVar 0) (paCons (p1 dLen (pVar 6)) paNil)))))
def z_law_bent_wires_1 : Ps := zCons (zSet 6 (p2 dAdd (pVar 6) (pL (paCons (pK (pCall none p_law_put (paCons (pVar 1) (paCons (pVar 2) (paCons (pT (paCons (pT (paCons (pT (paCons (p2 dIx (pVar 7) (pC (.int 0))) (paCons (pC (.bl true)) paNil))) (paCons (pFz 8) paNil))) paNil)) paNil))))) (paCons (pK (pCall none p_law_put (paCons (pVar 1) (paCons (pVar 2) (paCons (pT (paCons (pT (paCons (pFz 7) (paCons (pC (.str (Str.ofString "0"))) paNil))) paNil)) paNil))))) paNil))))) z_law_bent_wires_0
def z_law_bent_wires_2 : Ps := zCons (zSet 6 (p2 dAdd (pVar 6) (pL (paCons (pK (pCall none p_law_put (paCons (pVar 1) (paCons (pVar 2) (paCons (pT (paCons (pT (paCons (pFz 7) (paCons (pFz 8) (paCons (pFz 8) paNil)))) paNil)) paNil))))) (paCons (pK (pCall none p_law_put (paCons (pVar 1) (paCons (pVar 2) (paCons (pT (paCons (pT (paCons (pT (paCons (p2 dIx (pVar 7) (pC (.int 0))) paNil)) (paCons (pFz 8) paNil))) paNil)) paNil))))) paNil))))) z_law_bent_wires_1
def z_law_bent_wires_3 : Ps := zCons (zSet 6 (p2 dAdd (pVar 6) (pL (paCons (pK (p1 dList (pVar 1))) (paCons (pK (pCall none p_law_put (paCons (pVar 1) (paCons (pVar 2) (paCons (pT (paCons (pK (pL (paCons (pFz 7) (paCons (pFz 8) paNil)))) paNil)) paNil))))) (paCons (pK (pCall none p_law_put (paCons (pVar 1) (paCons (pVar 2) (paCons (pT (paCons (pT (paCons (pFz 7) paNil)) paNil)) paNil))))) paNil)))))) z_law_bent_wires_2
def z_law_bent_wires_4 : Ps := zCons (zSet 6 (p2 dAdd (pVar 6) (pL (paCons (pK (p1 dTuple (p1 dSortedX (pCall none p_law_put (paCons (pVar 1) (paCons (pVar 2) (paCons (pT (paCons (pT (paCons (pFz 7) (paCons (pFz 4) paNil))) paNil)) paNil))))))) (paCons (pK (p1 dTuple (p1 dSortedX (p2 dAdd (pVar 1) (pT (paCons (pT (paCons (pFz 7) (paCons (pFz 4) paNil))) paNil)))))) paNil))))) z_law_bent_wires_3
def z_law_bent_wires_5 : Ps := zCons (zSet 6 (p2 dAdd (pVar 6) (pL (paCons (pK (pCall none p_law_put (paCons (pVar 1) (paCons (pVar 2) (paCons (pT (paCons (pT (paCons (pFz 8) (paCons (pFz 7) paNil))) paNil)) paNil))))) (paCons (pK (pRevT (pVar 1))) (paCons (pK (pCall none p_law_put (paCons (pVar 1) (paCons (pVar 2) (paCons (pT (paCons (pT (paCons (pFz 7) (paCons (pFz 7) paNil))) paNil)) paNil))))) paNil)))))) z_law_bent_wires_4
def z_law_bent_wires_6 : Ps := zCons (zSet 6 (pL (paCons (pK (p1 dTuple (p1 dSortedX (pVar 5)))) (paCons (pK (p2 dAdd (pSl (pVar 1) poN (poS (pVar 2))) (pSl (pVar 1) (poS (p2 dAdd (pVar 2) (pC (.int 1)))) poN))) (paCons (pK (p1 dTuple (p1 dSortedX (p2 dAdd (pVar 1) (pT (paCons (pT (paCons (pFz 7) (paCons (pFz 8) paNil))) paNil)))))) paNil))))) z_law_bent_wires_5
def z_law_bent_wires_7 : Ps := zCons (zSet 5 (pIf (qV (p2 dNe (pVar 2) (pVar 3))) (pK (pCall none p_law_put (paCons (pVar 5) (paCons (pVar 3) (paCons (pT (paCons (pT (paCons (pFz 9) (paCons (pFz 8) paNil))) paNil)) paNil))))) (pFz 1))) z_law_bent_wires_6
def z_law_bent_wires_8 : Ps := zCons (zSet 5 (pCall none p_law_put (paCons (pVar 1) (paCons (pVar 2) (paCons (pT (paCons (pT (paCons (pFz 7) (paCons (pFz 10) paNil))) paNil)) paNil))))) z_law_bent_wires_7
def z_law_bent_wires_9 : Ps := zCons (zSet 4 (pT (paCons (pK (p2 dSub (pCall (some 0) Cm.p_law_take (paCons (pVar 0) (paCons (pC (.int 9)) paNil))) (pC (.int 2)))) (paCons (pK (p2 dSub (pCall (some 0) Cm.p_law_take (paCons (pVar 0) (paCons (pC (.int 6)) paNil))) (pC (.int 1)))) paNil)))) z_law_bent_wires_8
def z_law_bent_wires_10 : Ps := zCons (zAsg (p2 dIx (pVar 1) (pVar 3)) (pgT 2 (pgsCons (pgN 9) (pgsCons (pgN 10) pgsNil)))) z_law_bent_wires_9
def z_law_bent_wires_11 : Ps := zCons (zAsg (p2 dIx (pVar 1) (pVar 2)) (pgT 2 (pgsCons (pgN 7) (pgsCons (pgN 8) pgsNil)))) z_law_bent_wires_10
def z_law_bent_wires_12 : Ps := zCons (zSet 3 (pCall (some 0) Cm.p_law_take (paCons (pVar 0) (paCons (p1 dLen (pVar 1)) paNil)))) z_law_bent_wires_11
def z_law_bent_wires_13 : Ps := zCons (zSet 2 (pCall (some 0) Cm.p_law_take (paCons (pVar 0) (paCons (p1 dLen (pVar 1)) paNil)))) z_law_bent_wires_12
def z_law_bent_wires_14 : Ps := zCons (zIf (qV (p2 dEq (pVar 1) (pT paNil))) (zRet (p2 dIx (pL (paCons (pT (paCons (pT (paCons (pT (paCons (pC (.int 0)) (paCons (pC (.int 0)) paNil))) (paCons (pT (paCons (pC (.int 0)) (paCons (pC (.int 1)) paNil))) paNil))) paNil)) (paCons (pT (paCons (pT paNil) (paCons (pT paNil) paNil))) (paCons (pK (pL paNil)) (paCons (pC .non) paNil))))) (pCall (some 0) Cm.p_law_take (paCons (pVar 0) (paCons (pC (.int 4)) paNil))))) zNil) z_law_bent_wires_13
def p_law_bent_wires : Pd := runA (some 0) 11 z_law_bent_wires_14
def z_law_bent_0 : Ps := zCons (zFor (piSeq (pL (paCons (pT (paCons (pT (paCons (pC (.str (Str.ofString "n"))) (paCons (pFz 10) paNil))) paNil)) (paCons (pK (pRevT (pVar 15))) (paCons (pK (p2 dAdd (pVar 15) (pSl (pVar 15) poN (poS (pC (.int 1)))))) (paCons (pK (p2 dAdd (pVar 15) (pT (paCons (pT (paCons (pC (.str (Str.ofString "zz"))) (paCons (pC (.int 1)) paNil))) paNil)))) (paCons (pT (paCons (pT (paCons (pC (.str (Str.ofString "aB"))) (paCons (pC (.int 1)) paNil))) paNil)) (paCons (pT (paCons (pT (paCons (pC (.str (Str.ofString "n"))) paNil)) paNil)) (paCons (pT (paCons (pC (.str (Str.ofString "n"))) paNil)) paNil))))))))) (pgN 11) (zEx (pApp 8 (pT (paCons (pFz 12) (paCons (pFz 13) (paCons (pFz 14) (paCons (pFz 11) paNil)))))))) (zRet (p2 dIx (pVar 8) (pCall (some 0) Cm.p_law_take (paCons (pVar 0) (paCons (p1 dLen (pVar 8)) paNil)))))
def z_law_bent_1 : Ps := zCons (zSet 10 (p2 dIx (pL (paCons (pC (.int 0)) (paCons (pNeg (pC (.int 1))) (paCons (pC (.bl true)) (paCons (pC (.str (Str.ofString "1"))) (paCons (pC (.int 2)) (paCons (pK (p2 dPow (pC (.int 10)) (pC (.int 29)))) paNil))))))) (pCall (some 0) Cm.p_law_take (paCons (pVar 0) (paCons (pC (.int 6)) paNil))))) z_law_bent_0
def z_law_bent_2 : Ps := zCons (zSet 8 (p2 dAdd (pVar 8) (pL (paCons (pT (paCons (pFz 12) (paCons (pK (p1 dList (pVar 13))) (paCons (pFz 14) (paCons (pFz 15) paNil))))) (paCons (pT (paCons (pFz 12) (paCons (pFz 13) (paCons (pFz 14) (paCons (pK (p1 dList (pVar 15))) paNil))))) (paCons (pC .non) (paCons (pT paNil) (paCons (pC (.str (Str.ofString "net"))) paNil)))))))) z_law_bent_1
def z_law_bent_3 : Ps := zCons (zSet 8 (p2 dAdd (pVar 8) (pL (paCons (pT (paCons (pK (p2 dAdd (pVar 12) (pT (paCons (pFz 6) paNil)))) (paCons (pFz 13) (paCons (pFz 14) (paCons (pFz 15) paNil))))) (paCons (pT (paCons (pK (p1 dList (pVar 12))) (paCons (pFz 13) (paCons (pFz 14) (paCons (pFz 15) paNil))))) (paCons (pK (pSl (pVar 2) poN (poS (pC (.int 3))))) (paCons (pK (p2 dAdd (pVar 2) (pT (paCons (pT paNil) paNil)))) paNil))))))) z_law_bent_2
def z_law_bent_4 : Ps := zCons (zSet 8 (p2 dAdd (pVar 8) (pL (paCons (pT (paCons (pK (pCall none p_law_put (paCons (pVar 12) (paCons (pVar 5) (paCons (pT (paCons (pFz 7) paNil)) paNil))))) (paCons (pFz 13) (paCons (pFz 14) (paCons (pFz 15) paNil))))) (paCons (pT (paCons (pK (pSl (pVar 12) (poS (pC (.int 1))) poN)) (paCons (pFz 13) (paCons (pFz 14) (paCons (pFz 15) paNil))))) paNil))))) z_law_bent_3
def z_law_bent_5 : Ps := zCons (zSet 8 (p2 dAdd (pVar 8) (pL (paCons (pT (paCons (pFz 12) (paCons (pK (pCall none p_law_put (paCons (pVar 13) (paCons (pVar 4) (paCons (pT (paCons (pFz 9) paNil)) paNil))))) (paCons (pFz 14) (paCons (pFz 15) paNil))))) (paCons (pK (pL (paCons (pFz 12) (paCons (pFz 13) (paCons (pFz 14) (paCons (pFz 15) paNil)))))) paNil))))) z_law_bent_4
def z_law_bent_6 : Ps := zCons (zSet 9 (p2 dIx (pL (paCons (pC (.str (Str.ofString "zz"))) (paCons (pC .non) (paCons (pC (.int 0)) paNil)))) (p2 dMod (pVar 5) (pC (.int 3))))) z_law_bent_5
def z_law_bent_7 : Ps := zCons (zSet 8 (p2 dAdd (pVar 8) (pL (paCons (pT (paCons (pFz 12) (paCons (pK (pCall none p_law_put (paCons (pVar 13) (paCons (pVar 4) (paCons (pT (paCons (pFz 3) paNil)) paNil))))) (paCons (pFz 14) (paCons (pFz 15) paNil))))) (paCons (pT (paCons (pFz 12) (paCons (pK (pSl (pVar 13) (poS (pC (.int 1))) poN)) (paCons (pFz 14) (paCons (pFz 15) paNil))))) paNil))))) z_law_bent_6
def z_law_bent_8 : Ps := zCons (zSet 8 (p2 dAdd (pVar 8) (pL (paCons (pT (paCons (pFz 12) (paCons (pK (p2 dAdd (p2 dAdd (pSl (pVar 13) poN (poS (pVar 4))) (pT (paCons (pFz 3) paNil))) (pSl (pVar 13) (poS (pVar 4)) poN))) (paCons (pFz 14) (paCons (pFz 15) paNil))))) paNil)))) z_law_bent_7
def z_law_bent_9 : Ps := zCons (zSet 8 (pL (paCons (pT (paCons (pFz 12) (paCons (pFz 13) (paCons (pK (pCall (some 0) p_law_bent_wires (paCons (pVar 0) (paCons (pFz 14) paNil)))) (paCons (pFz 15) paNil))))) paNil))) z_law_bent_8
def z_law_bent_10 : Ps := zCons (zSet 7 (p2 dIx (pL (paCons (pT (paCons (p2 dIx (pVar 6) (pC (.int 0))) (paCons (pC (.str (Str.ofString "*"))) paNil))) (paCons (p2 dIx (pVar 6) (pC (.int 0))) (paCons (pK (pL (paCons (p2 dIx (pVar 6) (pC (.int 0))) (paCons (p2 dIx (pVar 6) (pC (.int 1))) paNil)))) (paCons (pK (pCall none Cm.p_law_mate (paCons (pVar 6) paNil))) (paCons (pC .non) (paCons (pFz 6) paNil))))))) (pCall (some 0) Cm.p_law_take (paCons (pVar 0) (paCons (pC (.int 6)) paNil))))) z_law_bent_9
def z_law_bent_11 : Ps := zCons (zSet 6 (p2 dIx (p2 dAdd (pVar 12) (pT (paCons (pT (paCons (pC (.str (Str.ofString "n"))) (paCons (pC (.str (Str.ofString "+"))) paNil))) paNil))) (pVar 5))) z_law_bent_10
def z_law_bent_12 : Ps := zCons (zSet 5 (pCall (some 0) Cm.p_law_take (paCons (pVar 0) (paCons (p2 dAdd (p1 dLen (pVar 12)) (pC (.int 1))) paNil)))) z_law_bent_11
def z_law_bent_13 : Ps := zCons (zSet 4 (pCall (some 0) Cm.p_law_take (paCons (pVar 0) (paCons (p2 dAdd (p1 dLen (pVar 13)) (pC (.int 1))) paNil)))) z_law_bent_12
def z_law_bent_14 : Ps := zCons (zSet 3 (p2 dIx (p2 dIx (pVar 1) (pCall (some 0) Cm.p_law_take (paCons (pVar 0) (paCons (p1 dLen (pVar 1)) paNil)))) (pC (.int 0)))) z_law_bent_13
def z_law_bent_15 : Ps := zCons (zAsg (pFz 2) (pgT 4 (pgsCons (pgN 12) (pgsCons (pgN 13) (pgsCons (pgN 14) (pgsCons (pgN 15) pgsNil)))))) z_law_bent_14
def p_law_bent : Pd := runA (some 0) 16 z_law_bent_15
def p_law_told : Pd := runA none 2 (zRet (pAnd (pIsi "bool" (pVar 0)) (p2 dEq (pVar 0) (pVar 1))))
def z_law_0 : Ps := zCons (zSet 7 (pCallT 0 p_law_bent (paCons (pCall none Cm.p_law_digits (paCons (pVar 0) (paCons (p2 dAdd (pVar 1) (pC (.int 2))) paNil))) (paCons (pVar 3) (paCons (pFz 5) paNil))))) (zIf (qN (qV (pCall none p_law_told (paCons (pCall none p_is_net (paCons (pVar 3) (paCons (pFz 7) paNil))) (paCons (pCall none p_law_right (paCons (pVar 3) (paCons (pVar 7) paNil))) paNil))))) (zRet (pC (.bl false))) zNil)
def z_law_1 : Ps := zCons (zFor (piSeq (p2 dIx (pVar 5) (pC (.int 2)))) (pgT 2 (pgsCons (pgN 8) (pgsCons (pgN 9) pgsNil))) (zIf (qO (qV (p2 dNe (pCall none p_joined_to (paCons (pVar 5) (paCons (pVar 8) paNil))) (pVar 9))) (qV (p2 dNe (pCall none p_joined_to (paCons (pVar 5) (paCons (pVar 9) paNil))) (pVar 8)))) (zRet (pC (.bl false))) zNil)) z_law_0
def z_law_2 : Ps := zCons (zIf (qO (qV (p2 dNe (pCall none p_ends_of (paCons (pVar 3) (paCons (pVar 5) paNil))) (pVar 6))) (qN (qV (pIsi "list" (pCall none p_ends_of (paCons (pVar 3) (paCons (pVar 5) paNil))))))) (zRet (pC (.bl false))) zNil) z_law_1
def z_law_3 : Ps := zCons (zSet 6 (pCall none p_law_ends (paCons (pVar 3) (paCons (pVar 5) paNil)))) z_law_2
def z_law_4 : Ps := zCons (zIf (qN (qV (pCall none p_law_told (paCons (pCall none p_is_net (paCons (pVar 3) (paCons (pFz 5) paNil))) (paCons (pC (.bl true)) paNil))))) (zRet (pC (.bl false))) zNil) z_law_3
def z_law_5 : Ps := zCons (zSet 5 (pCallT 0 p_law_net (paCons (pCall none Cm.p_law_digits (paCons (pVar 0) (paCons (p2 dAdd (pVar 1) (pC (.int 1))) paNil))) (paCons (pVar 3) (paCons (pVar 4) (paCons (pK (pL paNil)) (paCons (pK (pCall (some 0) Cm.p_law_take (paCons (pVar 2) (paCons (pC (.int 3)) paNil)))) paNil))))))) z_law_4
def z_law_6 : Ps := zCons (zSet 4 (pLc [10] (piR1 (pCall (some 0) Cm.p_law_take (paCons (pVar 2) (paCons (pC (.int 7)) paNil)))) (pgN 10) qYs (p2 dIx (p2 dIx (pVar 3) (pCall (some 0) Cm.p_law_take (paCons (pVar 2) (paCons (p1 dLen (pVar 3)) paNil)))) (pC (.int 0))))) z_law_5
def z_law_7 : Ps := zCons (zSet 3 (pCall (some 0) Cm.p_law_stock (paCons (pVar 2) paNil))) z_law_6
def z_law_8 : Ps := zCons (zSet 2 (pCall none Cm.p_law_digits (paCons (pVar 0) (paCons (pVar 1) paNil)))) z_law_7
def z_law_9 : Ps := zCons (zFor (piR3 (pC (.int 0)) (pMax (pC (.int 1)) (p1 dLen (pVar 0))) (pC (.int 3))) (pgN 1) z_law_8) (zRet (pC (.bl true)))
def p_law : Pd := runA none 11 z_law_9
end K02
namespace Pu
open PySem PySem.Spec PyProof.Rows L2 NdefX GenE Sh
def rowG (x : RowT × Tk) : Dv := .tup .trk [.str x.1.1, .tup x.2 (x.1.2.map specV)]
end Pu
namespace Cm
open PySem PySem.Spec PyProof.Rows L2 NdefX GenE Sh Pu
abbrev hl (h : Int) : Dv := .lst [.int h]
theorem take_w {h m : Int} {Q : RD -> Prop} (h0 : 0 < m) (h1 : m < 1073741824) (q : ∀ c h', 0 <= c -> c < m -> Q ((false, .int c), some (hl h'))) : W (p_law_take [.io (hl h), .fz (.int m)]) Q := by
 unfold p_law_take hl
 simp only [z_law_take_0, z_law_take_1, PWa, PWl, Sl.val, Sl.put, Sl.mut, Sl.pin, wipeA, unwipe, List.replicate, Nat.reduceAdd, Nat.reduceSub, Nat.reduceLeDiff, notPl, bne, Nat.reduceBEq, Int.reduceNeg, o_mod, o_div]
 refine ⟨h0, ⟨h0, h1⟩, ?_⟩
 rw [show ixN 1 0 = some 0 from rfl, w_some]
 exact q _ _ (Int.emod_nonneg _ (by omega)) (Int.emod_lt_of_pos _ h0)
theorem words_w {h m : Int} {Q : RD -> Prop} (m0 : 0 <= m) (m4 : m <= 4) (q : ∀ (ks : List Str) h', ks.length = m.toNat -> (∀ x ∈ ks, Wd x) -> ks.Nodup -> Q ((true, .lst (ks.map .str)), some (hl h'))) : W (p_law_words [.io (hl h), .fz (.int m)]) Q := by
 unfold p_law_words hl
 simp only [z_law_words_0, z_law_words_1, z_law_words_2, z_law_words_3, z_law_words_4, z_law_words_5]
 simp only [va]
 refine take_w (by decide) (by decide) fun n h1 n0 n1 => ?_
 simp only [va]
 refine ⟨⟨by omega, by omega⟩, ?_⟩
 have hp16 : (Str.ofString "abcdefghijklmnop").length = 16 := by decide +kernel
 have hp16' : (Str.ofString "abcdefghijklmnop").cps.toList.length = 16 := by decide +kernel
 refine lc_st (fun h : Int => [some (Sl.io (hl h)), some (Sl.fz (.int m)), some (Sl.fz (.str (Str.ofString "abcdefghijklmnop"))), none, none, none, none, none, none]) (fun y => ∃ c ∈ p16.cps.toList, y = .str (one1 c)) (i := h1) (by rw [rngD_len]; omega) (fun d h hd => ?_) fun acc h2 hlen hacc => ?_
 ·simp only [va]
  refine take_w (by decide) (by decide) fun c h3 c0 c1 => ?_
  simp only [va, o_ixS]
  obtain ⟨v, hv, e⟩ := at_lt (vs := (Str.ofString "abcdefghijklmnop").cps.toList) c0 (by rw [hp16']; omega)
  rw [e, w_some]
  exact ⟨by rw [hp16]; decide, ⟨v, hv, rfl⟩, _, rfl⟩
 obtain ⟨cs, hcs, rfl⟩ : ∃ cs : List Nat, (∀ c ∈ cs, c ∈ p16.cps.toList) /\ acc = cs.map fun c => .str (one1 c) := by
  clear hlen
  induction acc with
  | nil => exact ⟨[], by simp, rfl⟩
  | cons y acc ih =>
   obtain ⟨c, hc, rfl⟩ := hacc y (.head _)
   obtain ⟨cs, h1, rfl⟩ := ih fun y hy => hacc y (.tail _ hy)
   exact ⟨c :: cs, all_cons hc h1, rfl⟩
 rw [List.length_map, rngD_len] at hlen
 simp only [va]
 rw [join1 (by omega)]
 simp only [va, o_lenS, str_len]
 refine ⟨by have : lim = 100000 := rfl; omega, ?_⟩
 refine take_w (by omega) (by omega) fun a h3 a0 a1 => ?_
 obtain ⟨an, rfl⟩ := Int.eq_ofNat_of_zero_le a0
 have ha : an < cs.length := by omega
 simp only [va, o_ixS, str_len]
 refine ⟨by have : lim = 100000 := rfl; omega, ?_⟩
 rw [at_nat (v := cs[an]) (by rw [List.getElem?_eq_getElem ha]), w_some]
 have hca := hcs _ (List.getElem_mem ha)
 have hca' := p16_mem.mp hca
 have ei : dSIndex (.str p16) (.str ⟨#[cs[an]]⟩) = some (false, .int ((cs[an] - 97 : Nat) : Int)) := by
  have := p16_ix hca
  unfold one1 at this
  simp only [dSIndex]
  rw [this]
 rw [ei]
 simp only [va]
 refine take_w (by decide) (by decide) fun t h4 t0 t1 => ?_
 simp only [va, o_mod, o_ixS, hp16]
 have hix : (((cs[an] - 97 : Nat) : Int) + 1 + t) % 16 = (((cs[an] - 97 + 1 + t.toNat) % 16 : Nat) : Int) := by omega
 have hi16 : (cs[an] - 97 + 1 + t.toNat) % 16 < 16 := Nat.mod_lt _ (by decide)
 rw [hix, at_nat (p16_at hi16)]
 refine ⟨by decide, by decide, ?_⟩
 have ho : (97 + (cs[an] - 97 + 1 + t.toNat) % 16) ∈ p16.cps.toList := p16_mem.mpr (by omega)
 have hne : cs[an]? ≠ some (97 + (cs[an] - 97 + 1 + t.toNat) % 16) := by
  rw [List.getElem?_eq_getElem ha]
  intro e
  have := Option.some.inj e
  omega
 generalize 97 + (cs[an] - 97 + 1 + t.toNat) % 16 = o at ho hne ⊢
 have hlim : lim = 100000 := rfl
 have l1 : (⟨#[o]⟩ : Str).length = 1 := rfl
 simp only [va, o_slS, o_addS, str_len, cut_a ha, cut_b ha, cut_c]
 have e1 : (⟨(cs.take an).toArray⟩ : Str) ++ (⟨#[o]⟩ : Str) = ⟨(cs.take an ++ [o]).toArray⟩ := str_app _ [o]
 have e2 : (⟨(cs.take an ++ [o]).toArray⟩ : Str) ++ (⟨(cs.drop (an + 1)).toArray⟩ : Str) = ⟨(cs.take an ++ o :: cs.drop (an + 1)).toArray⟩ := by
  rw [str_app, List.append_assoc]
  rfl
 have e3 : (⟨cs.toArray⟩ : Str) ++ (⟨#[o]⟩ : Str) = ⟨(cs ++ [o]).toArray⟩ := str_app _ [o]
 simp only [e1, e2, e3, str_len, l1, List.length_append, List.length_take, List.length_drop, PWa, PWl, Sl.val, Sl.put, Sl.mut, Sl.pin, wipeA, unwipe, List.replicate, Nat.reduceAdd, Nat.reduceSub, Nat.reduceLeDiff, notPl, bne, Nat.reduceBEq, Int.reduceNeg]
 refine ⟨by omega, by omega, by omega, by omega, by omega, by omega, ?_⟩
 refine take_w (by decide) (by decide) fun s h5 s0 s1 => ?_
 simp only [va]
 refine ⟨⟨by omega, by omega⟩, ?_⟩
 have hw := four_w (o := o) hcs ho (by omega) (by omega) ha
 have hnd := four_nd (o := o) (by omega) ha hne
 have f4 : (four cs an o).length = 4 := rfl
 have ews : [Dv.str ⟨cs.toArray⟩, Dv.str ⟨(cs.take an ++ o :: cs.drop (an + 1)).toArray⟩, Dv.str ⟨(cs ++ [o]).toArray⟩, Dv.str ⟨(cs.take (cs.length - 1)).toArray⟩] = (four cs an o).map Dv.str := rfl
 rw [ews]
 generalize four cs an o = ws at hw hnd f4
 refine lc_mp _ (fun d => match d with
  | .int z => .str (ws.getD ((s.toNat + 1 * z.toNat) % ws.length) ⟨#[]⟩)
  | _ => .non) (by rw [rngD_len]; omega) (fun d hd => ?_) ?_
 ·obtain ⟨z, hz, rfl⟩ := rngD_mem hd
  simp only [va, o_mod]
  have hzi : (s + (z : Int)) % 4 = (((s.toNat + z) % 4 : Nat) : Int) := by omega
  have hz4 : (s.toNat + z) % 4 < 4 := Nat.mod_lt _ (by decide)
  rw [hzi, at_nat (v := Dv.str (ws.getD ((s.toNat + z) % 4) ⟨#[]⟩)) (by rw [List.getElem?_map, List.getElem?_eq_getElem (by omega), List.getD_eq_getElem?_getD, List.getElem?_eq_getElem (by omega)]; rfl), w_some]
  simp [f4]
 ·simp only [va]
  have e : (rngD 0 m.toNat).map (fun d => match d with
    | .int z => Dv.str (ws.getD ((s.toNat + 1 * z.toNat) % ws.length) ⟨#[]⟩)
    | _ => .non) = (turn ws s.toNat 1 m.toNat).map Dv.str := by
   rw [rngD_map]
   unfold turn
   rw [List.map_map]
   apply List.map_congr_left
   intro k _
   simp
  rw [e]
  refine q (turn ws s.toNat 1 m.toNat) _ (by simp [turn]) (fun x hx => hw x (turn_mem (by omega) x hx)) (turn_nd hnd (by omega) fun i j hij hj => ?_)
  rw [f4]
  omega
end Cm
namespace Cm
open PySem PySem.Spec PyProof.Rows L2 NdefX GenE Sh Pu
theorem digits_w {d : Dv} {ns : List Int} {k : Int} {Q : RD -> Prop} (hd : d = .lst (ns.map .int) \/ d = .fro (ns.map .int)) (k0 : 0 <= k) (q : ∀ h, Q ((true, hl h), none)) : W (p_law_digits [.fz d, .fz (.int k)]) Q := by
 unfold p_law_digits
 simp only [z_law_digits_0, z_law_digits_1, z_law_digits_2, z_law_digits_3, z_law_digits_4, z_law_digits_5]
 have pw18 : CPow 10 18 := ⟨by decide, by decide, by decide⟩
 rw [w_runN, w_zCons, w_zSet]
 have first : W (pIf (qV (p2 dLt (pVar 1) (p1 dLen (pVar 0)))) (p2 dIx (pVar 0) (pVar 1)) (pC (.int 0)) ([Sl.fz d, Sl.fz (.int k)].map some ++ List.replicate (6 - [Sl.fz d, Sl.fz (.int k)].length) none)) fun r => ∃ c : Int, r = (.v false (.int c), [some (.fz d), some (.fz (.int k)), none, none, none, none]) := by
  rcases hd with rfl | rfl
  ·simp only [va, List.length_map]
   split
   ·rename_i hlt
    obtain ⟨v, hv, e⟩ := at_lt (vs := ns.map Dv.int) k0 (by simpa using hlt)
    obtain ⟨z, _, rfl⟩ := List.mem_map.mp hv
    rw [e, w_some]
    exact ⟨_, rfl⟩
   ·exact ⟨_, rfl⟩
  ·simp only [va, List.length_map]
   split
   ·rename_i hlt
    obtain ⟨v, hv, e⟩ := at_lt (vs := ns.map Dv.int) k0 (by simpa using hlt)
    obtain ⟨z, _, rfl⟩ := List.mem_map.mp hv
    rw [e, w_some]
    exact ⟨_, rfl⟩
   ·exact ⟨_, rfl⟩
 refine first.mono fun r ⟨c, e⟩ => ?_
 subst e
 simp only [va, o_pow, o_mulI, o_mod]
 refine ⟨pw18, ?_⟩
 split
 ·exact ⟨pw18, q _⟩
 ·refine ⟨.inr ⟨by decide, by decide⟩, .inl ⟨by decide, by decide⟩, by decide, ⟨by decide, by decide⟩, ?_⟩
  refine for_w (fun rest a => (∀ x ∈ rest, ∃ z : Int, x = .int z) /\ ∃ (t n : Int) (o5 : Option Sl), a = [some (.fz d), some (.fz (.int k)), some (.fz (.int c)), some (.fz (.int t)), some (.fz (.int n)), o5] /\ 0 <= n /\ n < 2147483647 /\ coldB o5 = true) ?_ ?_ _ _ ⟨fun x hx => ?_, 0, _, none, rfl, Int.emod_nonneg _ (by decide), Int.emod_lt_of_pos _ (by decide), rfl⟩
  ·rintro x xs a ⟨hx, t, n, o5, rfl, n0, n1, ho⟩
   obtain ⟨z, rfl⟩ := hx x (.head _)
   simp only [va, o_mulI, o_mod, ho]
   refine ⟨.inl ⟨by omega, by omega⟩, .inl ⟨by decide, by decide⟩, by decide, .inr ⟨by decide, by decide⟩, .inr ⟨by decide, by decide⟩, by decide, fun y hy => hx y (.tail _ hy), _, _, _, rfl, Int.emod_nonneg _ (by decide), Int.lt_trans (Int.emod_lt_of_pos _ (by decide)) (by decide), rfl⟩
  ·rintro a ⟨_, t, n, o5, rfl, _⟩
   simp only [va]
   exact q _
  ·obtain ⟨z, _, rfl⟩ := rngD_mem hx
   exact ⟨_, rfl⟩
/-- the numbers of a list, in another order -/
theorem order_w {h n : Int} {Q : RD -> Prop} (n0 : 0 <= n) (n1 : n <= 1000) (q : ∀ (ks : List Nat) h', ks.Perm (List.range n.toNat) -> Q ((true, .lst (ks.map natV)), some (hl h'))) : W (p_law_order [.io (hl h), .fz (.int n)]) Q := by
 unfold p_law_order
 simp only [z_law_order_0, z_law_order_1, z_law_order_2]
 simp only [va, o_listRg]
 refine ⟨⟨n0, by omega⟩, ?_⟩
 refine while_w (fun m a => ∃ (h : Int) (ls fs : List Nat), a = [some (.io (hl h)), some (.fz (.int n)), some (.own (.lst (ls.map natV))), some (.own (.lst (fs.map natV)))] /\ ls.length = m /\ (fs ++ ls).Perm (List.range n.toNat)) ?_ fuel n.toNat _ (by have : fuel = 1000000 := rfl; omega) ⟨h, List.range n.toNat, [], rfl, by simp, by simp⟩
 rintro m a ⟨h, ls, fs, rfl, hm, hp⟩
 have hlen := hp.length_eq
 simp only [List.length_append, List.length_range] at hlen
 simp only [va]
 refine ne_nil (fun x hx => ?_) ?_
 ·obtain ⟨k, _, rfl⟩ := List.mem_map.mp hx
  exact dat_int
 simp only [va]
 cases ls with
 | nil =>
  simp only [List.map_nil, List.isEmpty_nil, PWa, PWl, Sl.val, Sl.put, Sl.mut, Sl.pin, wipeA, unwipe, List.replicate, Nat.reduceAdd, Nat.reduceSub, Nat.reduceLeDiff, notPl, bne, Nat.reduceBEq, Int.reduceNeg]
  rw [List.append_nil] at hp
  exact q fs h hp
 | cons k ls =>
  simp only [List.map_cons, List.isEmpty_cons, PWa, PWl, Sl.val, Sl.put, Sl.mut, Sl.pin, wipeA, unwipe, List.replicate, Nat.reduceAdd, Nat.reduceSub, Nat.reduceLeDiff, notPl, bne, Nat.reduceBEq, Int.reduceNeg]
  simp only [List.length_cons] at hlen
  refine take_w (by omega) (by simp only [List.length_map]; omega) fun c h' c0 c1 => ?_
  simp only [va]
  simp only [List.length_map] at c1
  have hc : c.toNat < (k :: ls).length := by simp only [List.length_cons]; omega
  have hcons : natV k :: ls.map natV = (k :: ls).map natV := rfl
  rw [seqI c0 (by simp only [List.length_map]; omega), w_some, hcons, List.getElem?_map, List.getElem?_eq_getElem hc, Option.map_some, w_some]
  refine ⟨⟨by omega, by omega⟩, by simp only [List.length_map]; have : lim = 100000 := rfl; omega, m - 1, by simp only [List.length_cons] at hm; omega, h', (k :: ls).eraseIdx c.toNat, fs ++ [(k :: ls)[c.toNat]], ?_, by rw [List.length_eraseIdx_of_lt hc, hm], ?_⟩
  ·rw [map_erase]
   simp only [List.map_append, List.map_cons, List.map_nil]
  ·refine List.Perm.trans ?_ hp
   rw [List.append_assoc]
   exact (erase_perm (List.getElem?_eq_getElem hc)).append_left fs
end Cm
namespace Cm
open PySem PySem.Spec PyProof.Rows L2 NdefX GenE Sh Pu
def pool : List Str := [Str.ofString "a", Str.ofString "add", Str.ofString "adder", Str.ofString "cut", Str.ofString "ring", Str.ofString "outer", Str.ofString "rule", Str.ofString "abcdefgh"]
theorem pool_nm : ∀ x ∈ pool, Nm x := by
 have h : ∀ x ∈ pool, (x.cps.toList.all fun c => decide (97 <= c /\ c < 123)) = true /\ 1 <= x.length /\ x.length <= 8 := by decide +kernel
 intro x hx
 obtain ⟨h1, h2, h3⟩ := h x hx
 exact ⟨fun c hc => of_decide_eq_true (List.all_eq_true.mp h1 c hc), h2, h3⟩
theorem side_at {c : Int} (c0 : 0 <= c) (c1 : c < 2) : ∃ s : Nat, (one1 s = pls \/ one1 s = mns) /\ atI (Str.ofString "+-").cps.toList c = some s := by
 have h : ∀ n : Nat, n < 2 -> ∃ s : Nat, (one1 s = pls \/ one1 s = mns) /\ (Str.ofString "+-").cps.toList[n]? = some s := by
  intro n hn
  match n, hn with
  | 0, _ => exact ⟨43, .inl (by decide +kernel), by decide +kernel⟩
  | 1, _ => exact ⟨45, .inr (by decide +kernel), by decide +kernel⟩
 obtain ⟨n, rfl⟩ := Int.eq_ofNat_of_zero_le c0
 obtain ⟨s, h1, h2⟩ := h n (by omega)
 exact ⟨s, h1, at_nat h2⟩
theorem dat_row {r : RowT} (h : RowOk r) : Dat 19 (rowV r) := by
 unfold Dat
 rw [row_dd (n := 15) h]
 rfl
theorem strs_of {P : Str -> Prop} : ∀ {acc : List Dv}, (∀ y ∈ acc, ∃ x, P x /\ y = .str x) -> ∃ ks : List Str, acc = ks.map .str /\ ∀ x ∈ ks, P x
 | [], _ => ⟨[], rfl, by simp⟩
 | y :: acc, h => by
  obtain ⟨x, hx, rfl⟩ := h y (.head _)
  obtain ⟨ks, rfl, hk⟩ := strs_of (acc := acc) fun z hz => h z (.tail _ hz)
  exact ⟨x :: ks, rfl, all_cons hx hk⟩
/-- a row is put: the ports drawn, or the first row's -/
theorem stock2_w {h k : Int} {a1 a2 o7 o8 : Option Sl} {ks ss : List Str} {rs : List RowT} {Q : AOut × AEnv -> Prop} (k0 : 0 <= k) (k4 : k < 4) (hk : ks.length = 4) (hks : ∀ x ∈ ks, Nm x) (hs : ss ≠ []) (hs4 : ss.length <= 4) (hss : ∀ x ∈ ss, Nm x) (hrs : ∀ r ∈ rs, RowOk r) (hr4 : rs.length <= 100) (c7 : coldB o7 = true) (c8 : coldB o8 = true)
  (q : ∀ (r : RowT) (h' : Int) (o7 o8 : Option Sl), RowOk r -> ks[k.toNat]? = some r.1 -> coldB o7 = true -> coldB o8 = true -> Q (.nx, [some (.io (hl h')), a1, a2, some (.own (.lst (ks.map .str))), some (.own (.lst (ss.map .str))), some (.own (.lst ((rs ++ [r]).map rowV))), some (.fz (.int k)), o7, o8])) :
  W (z_law_stock_2 [some (.io (hl h)), a1, a2, some (.own (.lst (ks.map .str))), some (.own (.lst (ss.map .str))), some (.own (.lst (rs.map rowV))), some (.fz (.int k)), o7, o8]) Q := by
 simp only [z_law_stock_2, z_law_stock_1, PWa, PWl, Sl.val, Sl.put, Sl.mut, Sl.pin, wipeA, unwipe, List.replicate, Nat.reduceAdd, Nat.reduceSub, Nat.reduceLeDiff, notPl, bne, Nat.reduceBEq, Int.reduceNeg, c7]
 refine take_w (by decide) (by decide) fun n h1 n0 n1 => ?_
 simp only [va]
 refine ⟨⟨by omega, by omega⟩, ?_⟩
 refine for_w (fun rest a => ∃ (h : Int) (ps : List SpT) (o8 : Option Sl), a = [some (.io (hl h)), a1, a2, some (.own (.lst (ks.map .str))), some (.own (.lst (ss.map .str))), some (.own (.lst (rs.map rowV))), some (.fz (.int k)), some (.own (.lst (ps.map specV))), o8] /\ coldB o8 = true /\ (∀ p ∈ ps, SpOk p) /\ (ps.length : Int) + rest.length = 1 + n) ?_ ?_ _ _ ⟨h1, [], o8, rfl, c8, by simp, by rw [rngD_len]; simp; omega⟩
 ·rintro d rest a ⟨h, ps, o8, rfl, c8, hps, hl4⟩
  simp only [va, c8]
  have hpos : 0 < ss.length := List.length_pos_iff.mpr hs
  refine take_w (by simp only [List.length_map]; omega) (by simp only [List.length_map]; omega) fun c h' c0 c1 => ?_
  simp only [va]
  obtain ⟨v, hv, e⟩ := at_lt (vs := ss.map Dv.str) c0 (by simpa using c1)
  obtain ⟨x, hx, rfl⟩ := List.mem_map.mp hv
  rw [e, w_some]
  refine take_w (by decide) (by decide) fun t h'' t0 t1 => ?_
  simp only [va, o_ixS]
  obtain ⟨sd, hsd, e2⟩ := side_at t0 t1
  rw [e2, w_some]
  simp only [List.length_cons] at hl4
  refine ⟨by decide +kernel, by simp only [List.length_map]; have : lim = 100000 := rfl; omega, h'', ps ++ [(x, one1 sd)], some (.fz d), ?_, rfl, all_app hps (all_cons ⟨hss x hx, hsd⟩ all_nil), by simp; omega⟩
  simp only [List.map_append, List.map_cons, List.map_nil]
  rfl
 ·rintro a ⟨h, ps, o8, rfl, c8, hps, hl4⟩
  simp only [List.length_nil] at hl4
  simp only [z_law_stock_0, PWa, PWl, Sl.val, Sl.put, Sl.mut, Sl.pin, wipeA, unwipe, List.replicate, Nat.reduceAdd, Nat.reduceSub, Nat.reduceLeDiff, notPl, bne, Nat.reduceBEq, Int.reduceNeg]
  obtain ⟨x, hxk⟩ : ∃ x, ks[k.toNat]? = some x := ⟨_, List.getElem?_eq_getElem (by omega : k.toNat < ks.length)⟩
  have hx := List.mem_of_getElem? hxk
  have ek : atI (ks.map Dv.str) k = some (.str x) := by
   have := at_nat (vs := ks.map Dv.str) (n := k.toNat) (v := .str x) (by rw [List.getElem?_map, hxk]; rfl)
   rwa [Int.toNat_of_nonneg k0] at this
  have hlim : (rs.map rowV).length < lim := by rw [List.length_map]; have : lim = 100000 := rfl; omega
  have rw1 : ∀ ps : List SpT, rs.map rowV ++ [Dv.tup .trk [.str x, .tup .nod (ps.map specV)]] = (rs ++ [(x, ps)]).map rowV := fun ps => by simp only [List.map_append, List.map_cons, List.map_nil]; rfl
  have rok : RowOk (x, ps) := ⟨hks x hx, by show 1 <= ps.length; omega, by show ps.length <= 4; omega, hps⟩
  refine ne_nil (fun y hy => ?_) ?_
  ·obtain ⟨r, hr, rfl⟩ := List.mem_map.mp hy
   exact dat_row (hrs r hr)
  simp only [va]
  cases rs with
  | nil =>
   simp only [List.map_nil, List.isEmpty_nil, PWa, PWl, Sl.val, Sl.put, Sl.mut, Sl.pin, wipeA, unwipe, List.replicate, Nat.reduceAdd, Nat.reduceSub, Nat.reduceLeDiff, notPl, bne, Nat.reduceBEq, Int.reduceNeg, ek]
   exact ⟨by decide, q (x, ps) h _ o8 rok hxk rfl c8⟩
  | cons r rs =>
   simp only [List.map_cons, List.isEmpty_cons, PWa, PWl, Sl.val, Sl.put, Sl.mut, Sl.pin, wipeA, unwipe, List.replicate, Nat.reduceAdd, Nat.reduceSub, Nat.reduceLeDiff, notPl, bne, Nat.reduceBEq, Int.reduceNeg]
   refine take_w (by decide) (by decide) fun c h' c0 c1 => ?_
   simp only [va, eqI]
   split
   ·simp only [rowV, PWa, PWl, Sl.val, Sl.put, Sl.mut, Sl.pin, wipeA, unwipe, List.replicate, Nat.reduceAdd, Nat.reduceSub, Nat.reduceLeDiff, notPl, bne, Nat.reduceBEq, Int.reduceNeg, ek]
    have r0 := hrs r (.head _)
    refine ⟨by simp only [List.length_map]; have : lim = 100000 := rfl; simp only [List.length_cons] at hr4; omega, ?_⟩
    have z := q (x, r.2) h' (some (.fz (.tup .nod (r.2.map specV)))) o8 ⟨hks x hx, r0.2⟩ hxk rfl c8
    rw [<- rw1] at z
    exact z
   ·simp only [va, ek]
    refine ⟨by simp only [List.length_map]; have : lim = 100000 := rfl; simp only [List.length_cons] at hr4; omega, ?_⟩
    have z := q (x, ps) h' (some (.own (.lst (ps.map specV)))) o8 rok hxk rfl c8
    rw [<- rw1] at z
    exact z
abbrev twn : Str := Str.ofString "twin"
def NamesOk (rs : List RowT) : Prop := (rs.map (·.1)).Nodup /\ ∀ r ∈ rs, r.1 ≠ twn
theorem stock5_w {h : Int} {a1 a2 : Option Sl} {ks : List Str} {Q : RD -> Prop} (hk : ks.length = 4) (hks : ∀ x ∈ ks, Nm x) (hkn : ks.Nodup) (hkt : ∀ x ∈ ks, x ≠ twn) (q : ∀ (rs : List RowT) h', 1 <= rs.length -> rs.length <= 4 -> (∀ r ∈ rs, RowOk r) -> NamesOk rs -> Q ((false, stockV rs), some (hl h'))) :
  W (z_law_stock_5 [some (.io (hl h)), a1, a2, some (.own (.lst (ks.map .str))), none, none, none, none, none]) fun r => ioW r.2[0]? r.1 Q := by
 simp only [z_law_stock_5, z_law_stock_4, PWa, PWl, Sl.val, Sl.put, Sl.mut, Sl.pin, wipeA, unwipe, List.replicate, Nat.reduceAdd, Nat.reduceSub, Nat.reduceLeDiff, notPl, bne, Nat.reduceBEq, Int.reduceNeg]
 refine take_w (by decide) (by decide) fun n h1 n0 n1 => ?_
 simp only [va]
 refine words_w (by omega) (by omega) fun ss h2 hsl hsw hnd => ?_
 simp only [z_law_stock_3, PWa, PWl, Sl.val, Sl.put, Sl.mut, Sl.pin, wipeA, unwipe, List.replicate, Nat.reduceAdd, Nat.reduceSub, Nat.reduceLeDiff, notPl, bne, Nat.reduceBEq, Int.reduceNeg]
 refine take_w (by decide) (by decide) fun m h3 m0 m1 => ?_
 simp only [va]
 refine ⟨⟨by omega, by omega⟩, ?_⟩
 refine for_w (fun rest a => ∃ (h : Int) (rs : List RowT) (o6 o7 o8 : Option Sl), a = [some (.io (hl h)), a1, a2, some (.own (.lst (ks.map .str))), some (.own (.lst (ss.map .str))), some (.own (.lst (rs.map rowV))), o6, o7, o8] /\ coldB o6 = true /\ coldB o7 = true /\ coldB o8 = true /\ (∀ r ∈ rs, RowOk r) /\ (rs.length : Int) + rest.length = 1 + m /\ rest = (List.range' rs.length rest.length).map natV /\ rs.map (·.1) = ks.take rs.length) ?_ ?_ _ _ ⟨h3, [], none, none, none, rfl, rfl, rfl, rfl, by simp, by rw [rngD_len]; simp; omega, ?_, by simp⟩
 ·rintro d rest a ⟨h, rs, o6, o7, o8, rfl, c6, c7, c8, hrs, hlen, hr, hns⟩
  simp only [List.length_cons] at hlen
  rw [List.length_cons, List.range'_succ, List.map_cons] at hr
  obtain ⟨hd, hr1⟩ := List.cons.inj hr
  subst hd
  simp only [va, c6]
  refine stock2_w (by omega) (by omega) hk hks (by intro e; rw [e] at hsl; simp at hsl; omega) (by omega) (fun x hx => (hsw x hx).nm) hrs (by omega) c7 c8 fun r h' o7 o8 hr' hrk c7 c8 => ?_
  refine ⟨h', rs ++ [r], _, o7, o8, rfl, rfl, c7, c8, all_app hrs (all_cons hr' all_nil), by simp; omega, by rw [List.length_append, List.length_singleton]; exact hr1, ?_⟩
  rw [Int.toNat_natCast] at hrk
  rw [List.map_append, hns, List.length_append, List.length_singleton, List.take_add_one, hrk]
  rfl
 ·rintro a ⟨h, rs, o6, o7, o8, rfl, c6, c7, c8, hrs, hlen, _, hns⟩
  simp only [List.length_nil] at hlen
  simp only [va, sortedX_l, sorted_rows hrs]
  have pm := List.mergeSort_perm rs (PySem.W.dataLe false rowD)
  refine q _ h (by rw [pm.length_eq]; omega) (by rw [pm.length_eq]; omega) (fun r hr => hrs r (pm.mem_iff.mp hr)) ⟨?_, fun r hr => ?_⟩
  ·rw [(pm.map (·.1)).nodup_iff, hns]
   exact hkn.sublist (List.take_sublist _ _)
  ·have hr := pm.mem_iff.mp hr
   have : r.1 ∈ rs.map (·.1) := List.mem_map_of_mem hr
   rw [hns] at this
   exact hkt _ (List.mem_of_mem_take this)
 ·rw [rngD_len, List.length_nil, <- List.range_eq_range']
  exact rngD_nat
theorem wd_twn {x : Str} (h : Wd x) : x ≠ twn := by
 rintro rfl
 have h1 := h.1 116 (by decide +kernel)
 exact absurd h1 (by decide +kernel)
theorem pool_tw : ∀ x ∈ pool, x ≠ twn := by decide +kernel
theorem pool_nd : pool.Nodup := by decide +kernel
theorem stock_w {h : Int} {Q : RD -> Prop} (q : ∀ (rs : List RowT) h', 1 <= rs.length -> rs.length <= 4 -> (∀ r ∈ rs, RowOk r) -> NamesOk rs -> Q ((false, stockV rs), some (hl h'))) : W (p_law_stock [.io (hl h)]) Q := by
 unfold p_law_stock
 simp only [z_law_stock_9, z_law_stock_8, z_law_stock_7, z_law_stock_6, PWa, PWl, Sl.val, Sl.put, Sl.mut, Sl.pin, wipeA, unwipe, List.replicate, Nat.reduceAdd, Nat.reduceSub, Nat.reduceLeDiff, notPl, bne, Nat.reduceBEq, Int.reduceNeg]
 refine take_w (by decide) (by decide) fun s h1 s0 s1 => ?_
 simp only [va]
 refine ⟨⟨by decide, by decide⟩, ?_⟩
 have epool : [Dv.str (Str.ofString "a"), Dv.str (Str.ofString "add"), Dv.str (Str.ofString "adder"), Dv.str (Str.ofString "cut"), Dv.str (Str.ofString "ring"), Dv.str (Str.ofString "outer"), Dv.str (Str.ofString "rule"), Dv.str (Str.ofString "abcdefgh")] = pool.map Dv.str := rfl
 rw [epool, show rngD 0 (Int.toNat 4) = (List.range 4).map natV from rngD_nat]
 obtain ⟨s, rfl, hs⟩ : ∃ k : Nat, s = k /\ k < 8 := ⟨s.toNat, by omega, by omega⟩
 refine lc_tm _ natV (List.range 4) (fun z => .str (pool.getD ((s + 3 * z) % 8) ⟨#[]⟩)) (by decide) (fun z hz => ?_) ?_
 ·simp only [va, o_mod, o_mulI]
  have e8 : ((s : Int) + 3 * (z : Int)) % 8 = (((s + 3 * z) % 8 : Nat) : Int) := by omega
  have hlt : (s + 3 * z) % 8 < pool.length := Nat.mod_lt _ (by decide)
  have e : atI (pool.map Dv.str) (((s + 3 * z) % 8 : Nat) : Int) = some (.str (pool.getD ((s + 3 * z) % 8) ⟨#[]⟩)) := at_nat (by rw [List.getElem?_map, List.getElem?_eq_getElem hlt, List.getD_eq_getElem?_getD, List.getElem?_eq_getElem hlt]; rfl)
  refine ⟨.inl ⟨by decide, by decide⟩, by decide, ?_⟩
  rw [e8, e, w_some]
 have et : (List.range 4).map (fun z => Dv.str (pool.getD ((s + 3 * z) % 8) ⟨#[]⟩)) = (turn pool s 3 4).map Dv.str := by
  unfold turn
  rw [List.map_map]
  rfl
 rw [et]
 simp only [va]
 refine take_w (by decide) (by decide) fun c h2 c0 c1 => ?_
 simp only [va, eqI]
 split
 ·refine words_w (by decide) (by decide) fun ws h3 hl hw hnd => ?_
  simp only [va]
  exact stock5_w hl (fun x hx => (hw x hx).nm) hnd (fun x hx => wd_twn (hw x hx)) q
 ·refine stock5_w (by simp [turn]) (fun x hx => pool_nm x (turn_mem (by decide) x hx)) (turn_nd pool_nd (by decide) fun i j hij hj => ?_) (fun x hx => pool_tw x (turn_mem (by decide) x hx)) q
  have e : pool.length = 8 := rfl
  rw [e]
  omega
end Cm
namespace Cm
open PySem PySem.Spec PyProof.Rows L2 NdefX GenE Sh Pu
end Cm
namespace Cm
open PySem PySem.Spec PyProof.Rows L2 NdefX GenE Sh Pu
end Cm
namespace Cm
open PySem PySem.Spec PyProof.Rows L2 NdefX GenE Sh Pu
end Cm
namespace Cm
open PySem PySem.Spec PyProof.Rows L2 NdefX GenE Sh Pu
end Cm
namespace Cm
open PySem PySem.Spec PyProof.Rows L2 NdefX GenE Sh Pu
/-- the wire of outer k, if it has one of its own -/
def pk (pi : List Nat) (E : List Ed) (k : Nat) : Option (En × En) := match E[k]? with
 | some (.en e) => some ((-1, (pi.getD k 0 : Int)), e)
 | some (.ix m) => some ((-1, (pi.getD k 0 : Int)), (-1, (pi.getD m 0 : Int)))
 | _ => none
end Cm
namespace Cm
open PySem PySem.Spec PyProof.Rows L2 NdefX GenE Sh Pu
structure NetT where
 outs : List SpT
 ks : List Str
 ws : List Wi
 rg : List (Str × Int)
end Cm
namespace Cm
open PySem PySem.Spec PyProof.Rows L2 NdefX GenE Sh Pu
def EB (n : Nat) (e : En) : Prop := e.1 = -1 \/ ∃ b : Nat, e.1 = b /\ b < n
structure NOk (N : NetT) : Prop where
 outs : ∀ s ∈ N.outs, SpOk s
 ks : ∀ x ∈ N.ks, Nm x
 rg : ∀ r ∈ N.rg, Nm r.1
 ol : N.outs.length <= 1000
 kl : N.ks.length <= 200
 wl : N.ws.length <= 1000
 gl : N.rg.length <= 300
 ends : ∀ w ∈ N.ws, EB N.ks.length w.1 /\ EB N.ks.length w.2
/-- things put where a naming says -/
def putL {α : Type} (d0 : α) (S : List α) (pi : List Nat) : List α := (List.range S.length).map fun j => S.getD (pi.idxOf j) d0
end Cm
namespace Cm
open PySem PySem.Spec PyProof.Rows L2 NdefX GenE Sh Pu
theorem k_sb : kitB "str" "bool" = some false := by decide +kernel
theorem k_nb : kitB "NoneType" "bool" = some false := by decide +kernel
end Cm
namespace Cm
open PySem PySem.Spec PyProof.Rows L2 NdefX GenE Sh Pu
abbrev rgI (n : Nat) : List Int := (List.range n).map fun k : Nat => (k : Int)
theorem o_listRg {n : Nat} {Q : Bool × Dv -> Prop} (h : n <= 1000) : W (dListRg (.int n)) Q = Q (true, .lst ((rgI n).map .int)) := by
 simp only [dListRg]
 rw [if_pos ⟨by omega, by omega⟩, w_some, Int.toNat_natCast, List.map_map]
 rfl
end Cm
namespace Cm
open PySem PySem.Spec PyProof.Rows L2 NdefX GenE Sh Pu
def AllE (P : En -> Prop) (ws : List Wi) : Prop := ∀ w ∈ ws, P w.1 /\ P w.2
/-- the spec of an end -/
def SpE (rs : List RowT) (O : List SpT) (ks : List Str) (e : En) (s : SpT) : Prop := (∃ i : Nat, e = outE i /\ O[i]? = some s) \/ ∃ (b p : Nat) (k : Str) (ps : List SpT), e = ((b : Int), (p : Int)) /\ ks[b]? = some k /\ prt rs k = some ps /\ ps[p]? = some s
def GoodN (rs : List RowT) (N : NetT) : Prop := NOk N /\ (∀ k ∈ N.ks, ∃ ps, prt rs k = some ps) /\ AllE (fun e => ∃ s, SpE rs N.outs N.ks e s) N.ws
theorem cutL_map {α β : Type} {f : α -> β} {l : List α} {lo hi : Option Int} : cutL (l.map f) lo hi = (cutL l lo hi).map f := by
 unfold cutL
 rw [List.length_map, List.map_take, List.map_drop]
theorem cutL_a {α : Type} {l : List α} {i : Nat} (h : i < l.length) : cutL l none (some (i : Int)) = l.take i := by
 unfold cutL
 have e1 : HT.sIx l.length 0 none = 0 := rfl
 have e2 : HT.sIx l.length l.length (some (i : Int)) = i := by
  simp only [HT.sIx]
  rw [if_neg (by omega)]
  omega
 rw [e1, e2, List.drop_zero, Nat.sub_zero]
def Fit (rs : List RowT) (O : List SpT) (ks : List Str) (w : Wi) : Prop := ∃ s, SpE rs O ks w.1 (mate s) /\ SpE rs O ks w.2 s
/-- what is known of a net that was drawn -/
structure Drawn (rs : List RowT) (N : NetT) : Prop where
 good : GoodN rs N
 fit : ∀ w ∈ N.ws, Fit rs N.outs N.ks w
 le : ∀ w ∈ N.ws, enLe w.1 w.2 = true
 srt : sortW N.ws = N.ws
 ne : N.ws ≠ []
end Cm
namespace Cm
open PySem PySem.Spec PyProof.Rows L2 NdefX GenE Sh Pu
def addN (o : List Nat) (b : Nat) : List Nat := if b ∈ o then o else o ++ [b]
def ext (o : List Nat) (bs : List Nat) : List Nat := bs.foldl addN o
def bfs (bs : Nat -> List Nat) : Nat -> Nat -> List Nat -> List Nat
 | 0, _, o => o
 | f + 1, i, o => match o[i]? with
  | none => o
  | some b => bfs bs f (i + 1) (ext o (bs b))
/-- the boxes from s on -/
def wlk (bs : Nat -> List Nat) (n s : Nat) : List Nat := bfs bs n 0 [s]
end Cm
namespace Cm
open PySem PySem.Spec PyProof.Rows L2 NdefX GenE Sh Pu
def lkStep (e : En) (acc : Option En) (w : Wi) : Option En := if e = w.2 then some w.1 else if e = w.1 then some w.2 else acc
def lkF (ws : List Wi) (e : En) : Option En := ws.foldl (lkStep e) none
def boxOf (e : En) : Option Nat := if e.1 = -1 then none else some e.1.toNat
def lks (ws : List Wi) (b : Nat) : List En := (List.range 4).filterMap fun p : Nat => lkF ws ((b : Int), (p : Int))
def bes (ws : List Wi) (b : Nat) : List Nat := (lks ws b).filterMap boxOf
end Cm
namespace Cm
open PySem PySem.Spec PyProof.Rows L2 NdefX GenE Sh Pu
def EP (n : Nat) (e : En) : Prop := e.1 = -1 \/ ∃ b p : Nat, e = ((b : Int), (p : Int)) /\ b < n /\ p < 4
structure WOk (n : Nat) (ws : List Wi) : Prop where
 ends : ∀ w ∈ ws, EP n w.1 /\ EP n w.2
 nd : (endsOf ws).Nodup
def Jn (ws : List Wi) (e f : En) : Prop := (e, f) ∈ ws \/ (f, e) ∈ ws
theorem Jn.symm {ws : List Wi} {e f : En} (h : Jn ws e f) : Jn ws f e := Or.symm h
end Cm
namespace Cm
open PySem PySem.Spec PyProof.Rows L2 NdefX GenE Sh Pu
def renE (g : Nat -> Nat) (e : En) : En := if e.1 = -1 then e else (((g e.1.toNat : Nat) : Int), e.2)
abbrev idxE (R : List Nat) (e : En) : En := renE (fun b => R.idxOf b) e
def wireI (R : List Nat) (w : Wi) : Wi := norm (idxE R w.1, idxE R w.2)
def inB (R : List Nat) (e : En) : Bool := R.any fun b => decide ((b : Int) = e.1)
def canK (ks : List Str) (R : List Nat) : List Str := R.map fun b => ks.getD b ⟨#[]⟩
def ownW (ws : List Wi) (R : List Nat) : List Wi := ws.filter fun w => inB R w.2
def canW (ws : List Wi) (R : List Nat) : List Wi := sortW ((ownW ws R).map (wireI R))
end Cm
namespace Cm
open PySem PySem.Spec PyProof.Rows L2 NdefX GenE Sh Pu
end Cm
namespace Cm
open PySem PySem.Spec PyProof.Rows L2 NdefX GenE Sh Pu
end Cm
namespace Cm
open PySem PySem.Spec PyProof.Rows L2 NdefX GenE Sh Pu
def rch (N : NetT) (s : Nat) : List Nat := wlk (bes N.ws) N.ks.length s
end Cm
namespace Cm
open PySem PySem.Spec PyProof.Rows L2 NdefX GenE Sh Pu
/-- those that hang together with b, rising -/
def cls (N : NetT) (b : Nat) : List Nat := (List.range N.ks.length).filter fun c => decide (c ∈ rch N b)
end Cm
namespace Cm
open PySem PySem.Spec PyProof.Rows L2 NdefX GenE Sh Pu
end Cm
namespace Cm
open PySem PySem.Spec PyProof.Rows L2 NdefX GenE Sh Pu
theorem rngC_mem {c : Nat} {n : Nat} {x : Dv} (h : x ∈ rngCD 0 c n) : ∃ k : Nat, x = .int k := by
 unfold rngCD at h
 obtain ⟨k, _, rfl⟩ := List.mem_map.mp h
 refine ⟨k * c, ?_⟩
 congr 1
 push_cast
 omega
theorem small2 : ∀ n : Fin 64, Builtin.Range.small 0 (if ((n.val : Nat) : Int) > 1 then ((n.val : Nat) : Int) else 1) 2 = true /\ Builtin.Range.rangeSize 0 (if ((n.val : Nat) : Int) > 1 then ((n.val : Nat) : Int) else 1) 2 = (Builtin.Range.rangeSize 0 (if ((n.val : Nat) : Int) > 1 then ((n.val : Nat) : Int) else 1) 2).toNat := by decide +kernel
end Cm
namespace Cn
open PySem PySem.Spec PyProof.Rows L2 NdefX GenE Sh Pu
open GxR (TabB TabG Tabbed)
end Cn
namespace Cn
open PySem PySem.Spec PyProof.Rows L2 NdefX GenE Sh Pu Cm
end Cn
namespace Cn
open PySem PySem.Spec PyProof.Rows L2 NdefX GenE Sh Pu Cm
theorem row_ddG {n : Nat} {x : RowT × Tk} (h : RowOk x.1) : toDD (n + 4) (rowG x) = some (rowD x.1) := row_dd (n := n) h
def sortG (l : List (RowT × Tk)) : List (RowT × Tk) := l.mergeSort (PySem.W.dataLe false fun x => rowD x.1)
theorem sorted_rowsG {l : List (RowT × Tk)} (h : ∀ x ∈ l, RowOk x.1) : dSorted (.lst (l.map rowG)) = some (true, .lst ((sortG l).map rowG)) := by
 have e : l.map (fun x : RowT × Tk => rowD x.1) = (l.map (·.1)).map rowD := by rw [List.map_map]; rfl
 refine sorted_by rowG (fun x => rowD x.1) l (fun a ha => row_ddG (n := 16) (h a ha)) ?_ ?_
 ·rw [e]
  exact alike_rows _
 ·rw [e]
  exact tup_rows _
end Cn
namespace Cn
open PySem PySem.Spec PyProof.Rows L2 NdefX GenE Sh Pu Cm
end Cn
namespace Cn
open PySem PySem.Spec PyProof.Rows L2 NdefX GenE Sh Pu Cm
/-- the wire of outer k -/
def ow (pi : List Nat) (L : List Fr) (k : Nat) : Wi := (outE (pi.getD k 0), (L.getD k ((0, 0), (⟨#[]⟩, ⟨#[]⟩))).1)
end Cn
namespace Cm
open PySem PySem.Spec PyProof.Rows L2 NdefX GenE Sh Pu
end Cm
namespace Cm
open PySem PySem.Spec PyProof.Rows L2 NdefX GenE Sh Pu
def sameP (pk : List Str) (pw : List Wi) (N : NetT) (c : Nat) : Prop := canK pk (wlk (bes pw) pk.length 0) = canK N.ks (rch N c) /\ canW pw (wlk (bes pw) pk.length 0) = canW N.ws (rch N c)
instance {pk : List Str} {pw : List Wi} {N : NetT} {c : Nat} : Decidable (sameP pk pw N c) := inferInstanceAs (Decidable (_ /\ _))
end Cm
namespace Cm
open PySem PySem.Spec PyProof.Rows L2 NdefX GenE Sh Pu
end Cm
namespace Cm
open PySem PySem.Spec PyProof.Rows L2 NdefX GenE Sh Pu
def sLt (a b : Str) : Prop := a.cps.toList < b.cps.toList
/-- rings: each once, by their sorts, at least one of a sort -/
structure RgOk (rg : List (Str × Int)) : Prop where
 pos : ∀ r ∈ rg, 1 <= r.2
 up : (rg.map (·.1)).Pairwise sLt
end Cm
namespace Cn
open PySem PySem.Spec PyProof.Rows L2 NdefX GenE Sh Pu Cm
end Cn
namespace Cn
open PySem PySem.Spec PyProof.Rows L2 NdefX GenE Sh Pu Cm
abbrev Ft := En × Str × Nat
end Cn
namespace Cm
open PySem PySem.Spec PyProof.Rows L2 NdefX GenE Sh Pu
end Cm
namespace Cn
open PySem PySem.Spec PyProof.Rows L2 NdefX GenE Sh Pu Cm
end Cn
namespace Cm
open PySem PySem.Spec PyProof.Rows L2 NdefX GenE Sh Pu
end Cm
namespace Cn
open PySem PySem.Spec PyProof.Rows L2 NdefX GenE Sh Pu Cm
end Cn
namespace Cn
open PySem PySem.Spec PyProof.Rows L2 NdefX GenE Sh Pu Cm
end Cn
namespace Pu
open PySem PySem.Spec PyProof.Rows L2 NdefX GenE Sh
theorem all_ty {α : Type} {p : Pe} {u : Pt} {g : Pg} {QB : Bool -> Prop} (E : AEnv -> Prop) (c : α -> Dv) (b : α -> Bool) : ∀ (l : List α) {a : AEnv}, (∀ x ∈ l, ∀ a, E a -> W (g (c x) a) fun a1 => W (u a1) fun r => r.1 = true /\ W (p r.2) fun s => W (rd s.2 s.1) (blW fun v => v = b x /\ E s.2)) -> E a -> QB (l.all b) -> W (allA false g u p (l.map c) a) QB
 | [], a, _, _, q => w_some ▸ q
 | x :: l, a, he, ha, q => by
  rw [List.map_cons]
  unfold allA
  simp only [w_bind, w_ite]
  refine (he x (.head _) a ha).mono fun a1 h1 => h1.mono fun r h2 => ?_
  rw [if_pos h2.1]
  refine h2.2.mono fun s h3 => ?_
  obtain ⟨dd, e, h3⟩ := h3
  cases dd with
  | bl v =>
   simp only [bl_bl] at h3
   obtain ⟨rfl, h4⟩ := h3
   simp only [e, w_ite, w_some]
   cases hb : b x with
   | false =>
    rw [if_pos rfl]
    rw [List.all_cons, hb, Bool.false_and] at q
    exact q
   | true =>
    rw [if_neg (by decide)]
    refine all_ty E c b l (fun y hy => he y (.tail _ hy)) h4 ?_
    rw [List.all_cons, hb, Bool.true_and] at q
    exact q
  | _ => exact h3.elim
end Pu
namespace Cn
open PySem PySem.Spec PyProof.Rows L2 NdefX GenE Sh Pu Cm
end Cn
namespace Lay
open PySem PySem.Spec PyProof.Rows L2 NdefX GenE Sh Pu Cm
abbrev sm (e : En) : Prop := e.1 = -2
/-- reached by wires of either list -/
inductive Rc (O I : List Wi) (e : En) : En -> Prop
 | refl : Rc O I e e
 | o {f g : En} : Rc O I e f -> Jn O f g -> Rc O I e g
 | i {f g : En} : Rc O I e f -> Jn I f g -> Rc O I e g
theorem Rc.trans {O I : List Wi} {e f g : En} (h : Rc O I e f) (k : Rc O I f g) : Rc O I e g := by
 induction k with
 | refl => exact h
 | o _ j ih => exact .o ih j
 | i _ j ih => exact .i ih j
theorem Rc.symm {O I : List Wi} {e f : En} (h : Rc O I e f) : Rc O I f e := by
 induction h with
 | refl => exact .refl
 | o _ j ih => exact (Rc.o .refl j.symm).trans ih
 | i _ j ih => exact (Rc.i .refl j.symm).trans ih
theorem Rc.swap {O I : List Wi} {e f : En} (h : Rc O I e f) : Rc I O e f := by
 induction h with
 | refl => exact .refl
 | o _ j ih => exact .i ih j
 | i _ j ih => exact .o ih j
end Lay
namespace Lay
open PySem PySem.Spec PyProof.Rows L2 NdefX GenE Sh Pu Cm
structure Inv (O I : List Wi) (s : En) (g : List En) (e : En) (U : List Wi) (V : List Wi) : Prop where
 gr : ∀ t ∈ g, Rc O I s t /\ sm t
 er : Rc O I s e
 oc : ∀ t ∈ g, ∀ u, Jn O t u -> u ∈ g
 ic : ∀ t ∈ g, t ≠ s -> ∀ u, Jn I t u -> u ∈ g \/ u = e
 ei : e ≠ s -> ∀ u, Jn I e u -> u ∈ g
 i0 : s ∈ g -> ∀ u, Jn I s u -> e = s -> u ∈ g
 st : g = [] /\ e = s \/ s ∈ g
 v1 : ∀ t ∈ g, t ≠ s -> t ∉ endsOf V
 v2 : e ≠ s -> e ∉ endsOf V
 v3 : ∀ t, sm t -> t ∈ endsOf I -> t ∉ g -> t ≠ e -> t ∈ endsOf V
 vJ : ∀ t u, Jn V t u -> Jn I t u
 vN : (endsOf V).Nodup
 u1 : ∀ t, sm t -> t ∈ endsOf O -> t ∉ g -> t ∈ endsOf U
 uJ : ∀ t u, Jn U t u -> Jn O t u
 em : e ∈ g -> e = s
end Lay
namespace Cn
open PySem PySem.Spec PyProof.Rows L2 NdefX GenE Sh Pu Cm
end Cn
namespace Cn
open PySem PySem.Spec PyProof.Rows L2 NdefX GenE Sh Pu Cm
end Cn
namespace Cn
open PySem PySem.Spec PyProof.Rows L2 NdefX GenE Sh Pu Cm
end Cn
namespace Lay
open PySem PySem.Spec PyProof.Rows L2 NdefX GenE Sh Pu Cm Cn
end Lay
namespace Lay
open PySem PySem.Spec PyProof.Rows L2 NdefX GenE Sh Pu Cm Cn
end Lay
namespace Lay
open PySem PySem.Spec PyProof.Rows L2 NdefX GenE Sh Pu Cm Cn
end Lay
namespace Lay
open PySem PySem.Spec PyProof.Rows L2 NdefX GenE Sh Pu Cm Cn
end Lay
namespace Lay
open PySem PySem.Spec PyProof.Rows L2 NdefX GenE Sh Pu Cm Cn
end Lay
namespace Lay
open PySem PySem.Spec PyProof.Rows L2 NdefX GenE Sh Pu Cm Cn
abbrev Rg := Str × Int
def val : List Rg -> Str -> Int
 | [], _ => 0
 | x :: l, s => if x.1 = s then x.2 else val l s
end Lay
namespace K02
open PySem PySem.Spec PyProof.Rows L2 NdefX GenE Sh Pu Cm Cn
/-- anything that is handed in -/
def Vw : Nat -> Dv -> Prop
 | n + 1, .tup _ xs => xs.length <= 1000 /\ ∀ x ∈ xs, Vw n x
 | n + 1, .lst xs => xs.length <= 1000 /\ ∀ x ∈ xs, Vw n x
 | _, .str x => (∀ c ∈ x.cps.toList, c < 128) /\ x.length <= 1000
 | _, .int _ => True
 | _, .bl _ => True
 | _, .non => True
 | _, _ => False
theorem k_it : kitB "int" "tuple" = some false := by decide +kernel
theorem k_bt : kitB "bool" "tuple" = some false := by decide +kernel
theorem k_ss : kitB "str" "str" = some true := by decide +kernel
theorem k_is : kitB "int" "str" = some false := by decide +kernel
theorem k_bs : kitB "bool" "str" = some false := by decide +kernel
theorem k_ts : kitB "tuple" "str" = some false := by decide +kernel
theorem k_ls : kitB "list" "str" = some false := by decide +kernel
theorem k_ns : kitB "NoneType" "str" = some false := by decide +kernel
def isT (d : Dv) (n : Nat) : Bool := match d with
 | .tup _ xs => decide (xs.length = n)
 | _ => false
theorem tuple_g {m : Nat} {d : Dv} {n : Nat} {Q : RD -> Prop} (h : Vw m d) (q : Q ((false, .bl (isT d n)), none)) : W (p_is_tuple [.fz d, .fz (.int n)]) Q := by
 unfold p_is_tuple
 cases d with
 | tup t xs =>
  simp only [vd, k_tt, eqI]
  have : ((xs.length : Int) == (n : Int)) = decide (xs.length = n) := by rw [Bool.eq_iff_iff]; simp; omega
  rw [this]
  exact q
 | lst xs => simp only [vd, k_lt]; exact q
 | str x => simp only [vd, k_st]; exact q
 | int i => simp only [vd, k_it]; exact q
 | bl b => simp only [vd, k_bt]; exact q
 | non => simp only [vd, k_nt]; exact q
 | _ => cases m <;> simp only [Vw] at h
instance : DecidablePred Nm := fun x => by unfold Nm; infer_instance
def nmB : Dv -> Bool
 | .str x => decide (Nm x)
 | _ => false
theorem letter_in {c : Nat} (h : c < 128) : dIn (.str ⟨#[c]⟩) (.str (Str.ofString "abcdefghijklmnopqrstuvwxyz")) = some (false, .bl (decide (97 <= c /\ c < 123))) := by
 have key : ∀ d : Fin 128, inD (.str ⟨#[d.val]⟩) (.str (Str.ofString "abcdefghijklmnopqrstuvwxyz")) = some (decide (97 <= d.val /\ d.val < 123)) := by decide +kernel
 unfold dIn
 rw [key ⟨c, h⟩]
 rfl
theorem nm_eq {x : Str} : decide (Nm x) = (decide (1 <= x.length) && (decide (x.length <= 8) && x.cps.toList.all fun c => decide (97 <= c /\ c < 123))) := by
 rw [Bool.eq_iff_iff]
 simp only [Bool.and_eq_true, decide_eq_true_eq, List.all_eq_true]
 unfold Nm
 constructor
 ·rintro ⟨a, b, c⟩
  exact ⟨b, c, a⟩
 ·rintro ⟨b, c, a⟩
  exact ⟨a, b, c⟩
theorem Vw.str {m : Nat} {x : Str} (h : Vw m (.str x)) : (∀ c ∈ x.cps.toList, c < 128) /\ x.length <= 1000 := by cases m <;> exact h
theorem name_g {m : Nat} {d : Dv} {Q : RD -> Prop} (h : Vw m d) (q : Q ((false, .bl (nmB d)), none)) : W (p_is_name [.fz d]) Q := by
 unfold p_is_name
 cases d with
 | str x =>
  have hlim : lim = 100000 := rfl
  obtain ⟨h1, h2⟩ := h.str
  have e1 : dLen (.str x) = some (false, .int x.length) := if_pos (by omega)
  have e2 : dLe (.int 1) (.int x.length) = some (false, .bl (decide ((1 : Int) <= x.length))) := rfl
  have e3 : dLe (.int x.length) (.int 8) = some (false, .bl (decide ((x.length : Int) <= 8))) := rfl
  simp only [vd, p_is_spelled, k_ss, e1, e2, e3]
  have d1 : decide ((1 : Int) <= x.length) = decide (1 <= x.length) := decide_eq_decide.mpr (by omega)
  have d2 : decide ((x.length : Int) <= 8) = decide (x.length <= 8) := decide_eq_decide.mpr (by omega)
  have q : Q ((false, .bl (decide (Nm x))), none) := q
  rw [nm_eq] at q
  rw [d1, d2]
  cases c1 : decide (1 <= x.length) with
  | false => rw [c1, Bool.false_and] at q; rw [if_neg (by decide)]; exact q
  | true =>
   rw [c1, Bool.true_and] at q
   rw [if_pos rfl]
   cases c2 : decide (x.length <= 8) with
   | false => rw [c2, Bool.false_and] at q; rw [if_neg (by decide)]; exact q
   | true =>
    rw [c2, Bool.true_and] at q
    rw [if_pos rfl]
    unfold signsD
    refine all_ty (fun a => ∃ o, a = [o, some (.fz (.str (Str.ofString "abcdefghijklmnopqrstuvwxyz")))] /\ coldB o = true) (fun c => Dv.str ⟨#[c]⟩) (fun c => decide (97 <= c /\ c < 123)) x.cps.toList (fun c hc a => ?_) ⟨none, rfl, rfl⟩ q
    rintro ⟨o, rfl, co⟩
    simp only [vd, co, letter_in (h1 c hc)]
    exact ⟨_, rfl, rfl⟩
 | lst xs => simp only [vd, k_ls]; exact q
 | tup t xs => simp only [vd, k_ts]; exact q
 | int i => simp only [vd, k_is]; exact q
 | bl b => simp only [vd, k_bs]; exact q
 | non => simp only [vd, k_ns]; exact q
 | _ => cases m <;> simp only [Vw] at h
theorem str_ok {x : Str} (h : ∀ c ∈ x.cps.toList, c < 128) : PyData.strOk x = true := by
 show x.cps.all (· < 0x110000) = true
 rw [<- Array.all_toList, List.all_eq_true]
 intro c hc
 have := h c hc
 exact decide_eq_true (by omega)
theorem mapO_ex {α β : Type} {f : α -> Option β} : ∀ {l : List α}, (∀ x ∈ l, ∃ y, f x = some y) -> ∃ m, mapO f l = some m
 | [], _ => ⟨[], rfl⟩
 | x :: l, h => by
  obtain ⟨y, hy⟩ := h x (.head _)
  obtain ⟨m, hm⟩ := mapO_ex fun z hz => h z (.tail _ hz)
  exact ⟨y :: m, by simp only [mapO, hy, hm]⟩
theorem vw_dd : ∀ {n : Nat} {d : Dv}, Vw n d -> ∀ k, n < k -> ∃ D, toDD k d = some D := by
 intro n
 induction n with
 | zero =>
  intro d h k hk
  obtain ⟨k, rfl⟩ : ∃ j, k = j + 1 := ⟨k - 1, by omega⟩
  cases d with
  | str x => exact ⟨.str x, dd_str (str_ok h.str.1)⟩
  | int i => exact ⟨.int i, rfl⟩
  | bl b => exact ⟨.bool b, rfl⟩
  | non => exact ⟨.none, rfl⟩
  | _ => simp only [Vw] at h
 | succ n ih =>
  intro d h k hk
  obtain ⟨k, rfl⟩ : ∃ j, k = j + 1 := ⟨k - 1, by omega⟩
  cases d with
  | str x => exact ⟨.str x, dd_str (str_ok h.str.1)⟩
  | int i => exact ⟨.int i, rfl⟩
  | bl b => exact ⟨.bool b, rfl⟩
  | non => exact ⟨.none, rfl⟩
  | tup t xs =>
   obtain ⟨m, hm⟩ := mapO_ex fun x hx => ih (h.2 x hx) k (by omega)
   exact ⟨.tuple m, by unfold toDD; rw [hm]; rfl⟩
  | lst xs =>
   obtain ⟨m, hm⟩ := mapO_ex fun x hx => ih (h.2 x hx) k (by omega)
   exact ⟨.list m, by unfold toDD; rw [hm]; rfl⟩
  | _ => simp only [Vw] at h
def pmB : Dv -> Bool
 | .str x => decide (x = pls \/ x = mns)
 | _ => false
theorem pm_in {n : Nat} {d : Dv} (h : Vw n d) (hn : n < 20) : dIn d (.tup .trk [.str (Str.ofString "+"), .str (Str.ofString "-")]) = some (false, .bl (pmB d)) := by
 obtain ⟨D, hD⟩ := vw_dd h 20 hn
 have e0 : toDD 20 (.tup .trk [.str (Str.ofString "+"), .str (Str.ofString "-")]) = some (.tuple [.str pls, .str mns]) := by
  show (mapO (toDD 19) [Dv.str (Str.ofString "+"), Dv.str (Str.ofString "-")]).map PyData.tuple = _
  simp only [mapO, dd_str (n := 18) (x := Str.ofString "+") (by decide +kernel), dd_str (n := 18) (x := Str.ofString "-") (by decide +kernel)]
  rfl
 have e1 : inD d (.tup .trk [.str (Str.ofString "+"), .str (Str.ofString "-")]) = some (PyData.eqv (.str pls) D || PyData.eqv (.str mns) D) := by
  have : inD d (.tup .trk [.str (Str.ofString "+"), .str (Str.ofString "-")]) = match toDD 20 d, toDD 20 (.tup .trk [.str (Str.ofString "+"), .str (Str.ofString "-")]) with
   | some d, some (.tuple ds) => some (ds.any fun z => PyData.eqv z d)
   | _, _ => none := by cases d <;> rfl
  rw [this, hD, e0]
  simp
 have e2 : (PyData.eqv (.str pls) D || PyData.eqv (.str mns) D) = pmB d := by
  cases d with
  | str x =>
   rw [dd_str (str_ok h.str.1)] at hD
   cases hD
   rw [eqv_str, eqv_str, Bool.eq_iff_iff]
   simp only [pmB, Bool.or_eq_true, decide_eq_true_eq]
   exact ⟨fun z => z.imp Eq.symm Eq.symm, fun z => z.imp Eq.symm Eq.symm⟩
  | int i => cases hD; rfl
  | bl b => cases hD; rfl
  | non => cases hD; rfl
  | tup t xs =>
   unfold toDD at hD
   obtain ⟨m, _, rfl⟩ := Option.map_eq_some_iff.mp hD
   rfl
  | lst xs =>
   unfold toDD at hD
   obtain ⟨m, _, rfl⟩ := Option.map_eq_some_iff.mp hD
   rfl
  | _ => cases n <;> simp only [Vw] at h
 unfold dIn
 rw [e1, e2]
 rfl
end K02
namespace K02
open PySem PySem.Spec PyProof.Rows L2 NdefX GenE Sh Pu Cm Cn
theorem all_id {p : Pe} {u : Pt} {g : Pg} {QB : Bool -> Prop} (E : AEnv -> Prop) (b : Dv -> Bool) (l : List Dv) {a : AEnv} (h : ∀ x ∈ l, ∀ a, E a -> W (g x a) fun a1 => W (u a1) fun r => r.1 = true /\ W (p r.2) fun s => W (rd s.2 s.1) (blW fun v => v = b x /\ E s.2)) (ha : E a) (q : QB (l.all b)) : W (allA false g u p l a) QB := by
 have := all_ty E (fun x : Dv => x) b l h ha q
 rwa [List.map_id'] at this
theorem isT_two {d : Dv} (h : isT d 2 = true) : ∃ t a b, d = .tup t [a, b] := by
 cases d <;> simp only [isT, reduceCtorEq, decide_eq_true_eq] at h
 rename_i t xs
 match xs, h with
 | [a, b], _ => exact ⟨t, a, b, rfl⟩
theorem Vw.two {n : Nat} {t : Tk} {a b : Dv} (h : Vw (n + 1) (.tup t [a, b])) : Vw n a /\ Vw n b := ⟨h.2 a (.head _), h.2 b (.tail _ (.head _))⟩
def spB : Dv -> Bool
 | .tup _ [a, b] => nmB a && pmB b
 | _ => false
theorem sp_no {d : Dv} (h : isT d 2 = false) : spB d = false := by
 unfold spB
 split
 ·simp [isT] at h
 ·rfl
theorem ix0 {t : Tk} {a b : Dv} : dIx (.tup t [a, b]) (.int 0) = some (false, a) := rfl
theorem ix1 {t : Tk} {a b : Dv} : dIx (.tup t [a, b]) (.int 1) = some (false, b) := rfl
theorem spec_g {n : Nat} {d : Dv} {Q : RD -> Prop} (h : Vw (n + 1) d) (hn : n < 20) (q : Q ((false, .bl (spB d)), none)) : W (p_is_spec [.fz d]) Q := by
 unfold p_is_spec
 simp only [vd]
 refine tuple_g (n := 2) h ?_
 cases e : isT d 2 with
 | false =>
  rw [sp_no e] at q
  simp only [vd]
  exact q
 | true =>
  obtain ⟨t, a, b, rfl⟩ := isT_two e
  obtain ⟨ha, hb⟩ := h.two
  simp only [vd, ix0, ix1]
  refine name_g ha ?_
  have q : Q ((false, .bl (nmB a && pmB b)), none) := q
  cases e1 : nmB a with
  | false =>
   rw [e1] at q
   simp only [vd]
   exact q
  | true =>
   rw [e1] at q
   simp only [vd, pm_in hb hn]
   exact q
def spsB : Dv -> Bool
 | .tup _ xs => xs.all spB
 | _ => false
theorem specs_g {n : Nat} {d : Dv} {Q : RD -> Prop} (h : Vw (n + 2) d) (hn : n < 20) (q : Q ((false, .bl (spsB d)), none)) : W (p_are_specs [.fz d]) Q := by
 unfold p_are_specs
 cases d with
 | tup t xs =>
  simp only [vd, k_tt]
  refine all_id (fun a => ∃ o, a = [o] /\ coldB o = true) spB xs (fun s hs a => ?_) ⟨none, rfl, rfl⟩ q
  rintro ⟨o, rfl, co⟩
  simp only [vd, co]
  refine spec_g (h.2 s hs) hn ?_
  simp only [vd]
  exact ⟨_, rfl, rfl⟩
 | lst xs => simp only [vd, k_lt]; exact q
 | str x => simp only [vd, k_st]; exact q
 | int i => simp only [vd, k_it]; exact q
 | bl b => simp only [vd, k_bt]; exact q
 | non => simp only [vd, k_nt]; exact q
 | _ => simp only [Vw] at h
end K02
namespace K06
open PySem PySem.Spec PyProof.Rows L2 NdefX GenE Sh Pu Cm Cn K02
abbrev spc : Str := Str.ofString " "
abbrev equ : Str := Str.ofString "="
/-- a text as it is handed in -/
def TOk (x : Str) : Prop := (∀ c ∈ x.cps.toList, c < 128) /\ x.length <= 1000
theorem TOk.vw {x : Str} (h : TOk x) {n : Nat} : Vw n (.str x) := by cases n <;> exact h
theorem sub_ok {x : Str} {i j : Nat} (h : TOk x) : TOk (Builtin.Str.strSub x i j) := by
 refine ⟨fun c hc => h.1 c ?_, ?_⟩
 ·unfold Builtin.Str.strSub at hc
  rw [Array.mem_toList_iff] at hc ⊢
  obtain ⟨k, hk, e⟩ := Array.mem_iff_getElem.mp hc
  rw [Array.getElem_extract] at e
  exact e ▸ Array.getElem_mem _
 ·have := h.2
  unfold Builtin.Str.strSub Str.length at *
  rw [Array.size_extract]
  omega
theorem word_ok {x y : Str} (h : TOk x) : ∀ w ∈ Txt.split x y, TOk w := fun w hw => by
 unfold Txt.split at hw
 split at hw
 ·rw [List.mem_singleton.mp hw]; exact h
 ·split at hw
  ·rw [List.mem_singleton.mp hw]; exact h
  ·unfold Builtin.Str.partsBetween at hw
   obtain ⟨p, _, rfl⟩ := List.mem_map.mp hw
   exact sub_ok h
theorem words_len {x y : Str} : 1 <= (Txt.split x y).length /\ (Txt.split x y).length <= x.length + 2 := by
 unfold Txt.split
 split
 ·exact ⟨by simp, by simp⟩
 ·split
  ·exact ⟨by simp, by simp⟩
  ·rw [length_partsBetween]
   have := StrLaws.occ_length_le_len x y 0 x.length (x.length + 1)
   omega
theorem cut_ok {x : Str} {i j : Option Int} (h : TOk x) : TOk (cutS x i j) := by
 refine ⟨fun c hc => h.1 c ?_, Nat.le_trans (cutS_length x i j) h.2⟩
 unfold cutS at hc
 rw [List.toList_toArray] at hc
 exact List.mem_of_mem_drop (List.mem_of_mem_take hc)
/-- a word behind its first sign, its first sign -/
abbrev tl (w : Str) : Str := cutS w (some 1) none
abbrev hd (w : Str) : Str := cutS w none (some 1)
def spW (w : Str) : SpT := (tl w, hd w)
theorem read_spec_w {w : Str} {Q : RD -> Prop} (h : TOk w) (q : Q ((false, specV (spW w)), none)) : W (p_read_spec [.fz (.str w)]) Q := by
 have hlim : lim = 100000 := rfl
 have := h.2
 unfold p_read_spec
 simp only [ve, o_slS]
 exact ⟨by omega, by omega, q⟩
/-- is a word a port -/
def okP (w : Str) : Bool := decide (Nm (tl w)) && decide (hd w = pls \/ hd w = mns)
theorem okP_iff {w : Str} : okP w = true ↔ SpOk (spW w) := by
 unfold okP SpOk spW
 rw [Bool.and_eq_true, decide_eq_true_eq, decide_eq_true_eq]
def wA (ws : List Str) : Str := ws.getD 0 ⟨#[]⟩
def rowW (ws : List Str) : RowT := (wA ws, (ws.drop 2).map spW)
/-- are words a row -/
def okW (ws : List Str) : Bool := decide (3 <= ws.length /\ ws.length <= 6) && (decide (ws.getD 1 ⟨#[]⟩ = equ) && (decide (Nm (wA ws)) && (ws.drop 2).all okP))
theorem okW_row {ws : List Str} (h : okW ws = true) : RowOk (rowW ws) := by
 unfold okW at h
 simp only [Bool.and_eq_true, decide_eq_true_eq, List.all_eq_true] at h
 obtain ⟨⟨h3, h6⟩, _, hn, hp⟩ := h
 refine ⟨hn, ?_, ?_, fun p hp' => ?_⟩
 ·show 1 <= ((ws.drop 2).map spW).length
  rw [List.length_map, List.length_drop]
  omega
 ·show ((ws.drop 2).map spW).length <= 4
  rw [List.length_map, List.length_drop]
  omega
 ·obtain ⟨w, hw, rfl⟩ := List.mem_map.mp hp'
  exact okP_iff.mp (hp w hw)
theorem entry_g {w0 : Str} {ps : List SpT} {t : Tk} {Q : RD -> Prop} (h0 : TOk w0) (hp : ∀ p ∈ ps, TOk p.1 /\ TOk p.2) (hl : ps.length <= 1000) (q : Q ((false, .bl (decide (Nm w0) && (ps.all (fun p => spB (specV p)) && decide (1 <= ps.length /\ ps.length <= 4)))), none)) : W (p_is_entry [.fz (.tup .trk [.str w0, .tup t (ps.map specV)])]) Q := by
 have hlim : lim = 100000 := rfl
 have sv : ∀ p ∈ ps, Vw 1 (specV p) := fun w hw => ⟨by simp, fun y hy => by
  rcases List.mem_cons.mp hy with rfl | hy
  ·exact (hp w hw).1.vw
  ·rw [List.mem_singleton.mp hy]
   exact (hp w hw).2.vw⟩
 have vs : Vw 2 (.tup t (ps.map specV)) := ⟨by rw [List.length_map]; exact hl, fun y hy => by
  obtain ⟨w, hw, rfl⟩ := List.mem_map.mp hy
  exact sv w hw⟩
 have vT : Vw 3 (.tup .trk [.str w0, .tup t (ps.map specV)]) := ⟨by simp, fun y hy => by
  rcases List.mem_cons.mp hy with rfl | hy
  ·exact h0.vw
  ·rw [List.mem_singleton.mp hy]
   exact vs⟩
 have eA : spsB (.tup t (ps.map specV)) = ps.all fun p => spB (specV p) := by
  show (ps.map specV).all spB = _
  rw [List.all_map]
  rfl
 unfold p_is_entry
 simp only [z_is_entry_1, PWa, PWc, PWd, PWe, PWl, Sl.val, Sl.put, Sl.mut, Sl.pin, wipeA, unwipe, List.replicate, Nat.reduceAdd, Nat.reduceSub, Nat.reduceLeDiff, notPl, bne, Nat.reduceBEq, Int.reduceNeg]
 refine tuple_g (n := 2) vT ?_
 simp only [isT, PWa, PWc, PWd, PWe, PWl, Sl.val, Sl.put, Sl.mut, Sl.pin, wipeA, unwipe, List.replicate, Nat.reduceAdd, Nat.reduceSub, Nat.reduceLeDiff, notPl, bne, Nat.reduceBEq, Int.reduceNeg, z_is_entry_0]
 refine name_g (m := 0) h0.vw ?_
 simp only [ve, nmB]
 cases c1 : decide (Nm w0) with
 | false =>
  rw [c1] at q
  simp only [ve]
  exact q
 | true =>
  rw [c1] at q
  simp only [ve]
  refine specs_g (n := 0) vs (by decide) ?_
  rw [eA]
  simp only [ve]
  rw [List.length_map]
  have q : Q ((false, .bl ((ps.all fun p => spB (specV p)) && decide (1 <= ps.length /\ ps.length <= 4))), none) := q
  cases c2 : ps.all fun p => spB (specV p) with
  | false =>
   rw [c2] at q
   rw [if_neg (by decide)]
   exact q
  | true =>
   rw [c2] at q
   rw [if_pos rfl]
   have q : Q ((false, .bl (decide (1 <= ps.length /\ ps.length <= 4))), none) := q
   by_cases c3 : 1 <= ps.length
   ·rw [if_pos (decide_eq_true (by omega))]
    have e : decide (1 <= ps.length /\ ps.length <= 4) = decide ((ps.length : Int) <= 4) := decide_eq_decide.mpr (by omega)
    rw [e] at q
    exact q
   ·have e1 : decide ((1 : Int) <= (ps.length : Int)) = false := decide_eq_false (by omega)
    rw [e1, if_neg (by decide)]
    have e : decide (1 <= ps.length /\ ps.length <= 4) = false := decide_eq_false (by omega)
    rw [e] at q
    exact q
theorem entry_w {w0 : Str} {rest : List Str} {t : Tk} {Q : RD -> Prop} (h0 : TOk w0) (hr : ∀ w ∈ rest, TOk w) (hl : rest.length <= 1000) (q : Q ((false, .bl (decide (Nm w0) && (rest.all okP && decide (1 <= rest.length /\ rest.length <= 4)))), none)) : W (p_is_entry [.fz (.tup .trk [.str w0, .tup t ((rest.map spW).map specV)])]) Q := by
 refine entry_g h0 (fun p hp => ?_) (by rw [List.length_map]; exact hl) ?_
 ·obtain ⟨w, hw, rfl⟩ := List.mem_map.mp hp
  exact ⟨cut_ok (hr w hw), cut_ok (hr w hw)⟩
 ·rw [List.all_map, List.length_map]
  exact q
theorem nm_tok {x : Str} (h : Nm x) : TOk x := ⟨fun c hc => by have := (h.1 c hc).2; omega, by have := h.2.2; omega⟩
theorem sd_tok {x : Str} (h : x = pls \/ x = mns) : TOk x := by rcases h with rfl | rfl <;> exact ⟨by decide +kernel, by decide +kernel⟩
theorem entryR_w {r : RowT} {t : Tk} {Q : RD -> Prop} (h : RowOk r) (q : Q ((false, .bl true), none)) : W (p_is_entry [.fz (rowG (r, t))]) Q := by
 have a : r.2.all (fun p => spB (specV p)) = true := List.all_eq_true.mpr fun p hp => by
  have s := h.2.2.2 p hp
  show (decide (Nm p.1) && decide (p.2 = pls \/ p.2 = mns)) = true
  rw [decide_eq_true s.1, decide_eq_true s.2]
  rfl
 have l1 := h.2.1
 have l4 := h.2.2.1
 refine entry_g (nm_tok h.1) (fun p hp => ⟨nm_tok (h.2.2.2 p hp).1, sd_tok (h.2.2.2 p hp).2⟩) (by show r.2.length <= 1000; omega) ?_
 rw [a, decide_eq_true h.1, decide_eq_true ⟨l1, l4⟩]
 exact q
/-- what a text tells: a row, or none -/
def parse (x : Str) : Option RowT := let ws := Txt.split x spc; if okW ws = true then some (rowW ws) else none
def entV (t : Tk) (x : Str) : Dv := match parse x with
 | some r => rowG (r, t)
 | none => .non
theorem parse_ok {x : Str} {r : RowT} (h : parse x = some r) : RowOk r := by
 unfold parse at h
 simp only at h
 split at h
 ·rename_i e
  cases h
  exact okW_row e
 ·cases h
theorem cut_from {α : Type} {l : List α} {n : Nat} : cutL l (some (n : Int)) none = l.drop n := by
 unfold cutL
 rw [HT.sIx_none, HT.sIx_nat, List.take_of_length_le (by rw [List.length_drop]; omega)]
 rcases Nat.le_total n l.length with h | h
 ·rw [Nat.min_eq_left h]
 ·rw [Nat.min_eq_right h, List.drop_length, List.drop_of_length_le h]
theorem cut_one {α : Type} {l : List α} {i : Nat} : cutL l (some (i : Int)) (some ((i : Int) + 1)) = (l[i]?).toList := by
 unfold cutL
 have e1 : HT.sIx l.length 0 (some (i : Int)) = min i l.length := by
  simp only [HT.sIx]
  rw [if_neg (by omega)]
  omega
 have e2 : HT.sIx l.length l.length (some ((i : Int) + 1)) = min (i + 1) l.length := by
  simp only [HT.sIx]
  rw [if_neg (by omega)]
  omega
 rw [e1, e2]
 by_cases h : i < l.length
 ·rw [Nat.min_eq_left (by omega), Nat.min_eq_left (by omega), List.getElem?_eq_getElem h, List.drop_eq_getElem_cons h, show i + 1 - i = 1 by omega]
  rfl
 ·rw [Nat.min_eq_right (by omega), List.getElem?_eq_none_iff.mpr (by omega), List.drop_of_length_le (by omega)]
  simp
theorem str_dd {n : Nat} {x : Str} (h : TOk x) : toDD (n + 1) (.str x) = some (.str x) := dd_str (str_ok h.1)
theorem read_kind_w {x : Str} {Q : RD -> Prop} (h : TOk x) (q : Q ((false, entV .trk x), none)) : W (p_read_kind [.fz (.str x)]) Q := by
 have hlim : lim = 100000 := rfl
 have wo := word_ok (y := spc) h
 obtain ⟨w1, w2⟩ := words_len (x := x) (y := spc)
 have h2 := h.2
 have eq0 : entV .trk x = (if okW (Txt.split x spc) = true then rowG (rowW (Txt.split x spc), .trk) else .non) := by
  unfold entV parse
  simp only
  split <;> rename_i hh
  ·split at hh
   ·rename_i e; cases hh; rw [if_pos e]
   ·cases hh
  ·split at hh
   ·cases hh
   ·rename_i e; rw [if_neg e]
 rw [eq0] at q
 unfold p_read_kind
 simp only [z_read_kind_1, PWa, PWc, PWd, PWe, PWl, Sl.val, Sl.put, Sl.mut, Sl.pin, wipeA, unwipe, List.replicate, Nat.reduceAdd, Nat.reduceSub, Nat.reduceLeDiff, notPl, bne, Nat.reduceBEq, Int.reduceNeg, o_split]
 refine ⟨⟨by decide +kernel, by omega⟩, ?_⟩
 generalize Txt.split x spc = ws at q wo w1 w2
 have g0 : ws[0]? = some (wA ws) := by
  unfold wA
  rw [List.getD_eq_getElem?_getD, List.getElem?_eq_getElem (by omega)]
  rfl
 have i0 : dIx (.lst (ws.map .str)) (.int 0) = some (false, .str (wA ws)) := by
  have := at_nat (vs := ws.map Dv.str) (n := 0) (v := .str (wA ws)) (by rw [List.getElem?_map, g0]; rfl)
  simp only [dIx]
  rw [show (0 : Int) = ((0 : Nat) : Int) from rfl, this]
  rfl
 have c2 : cutL (ws.map Dv.str) (some 2) none = (ws.drop 2).map Dv.str := by rw [cutL_map]; exact congrArg _ (cut_from (n := 2))
 have c1 : cutL (ws.map Dv.str) (some 1) (some 2) = ((ws[1]?).toList).map Dv.str := by rw [cutL_map]; exact congrArg _ (cut_one (i := 1))
 have wd : ∀ w ∈ ws.drop 2, TOk w := fun w hw => wo w (List.mem_of_mem_drop hw)
 have dl : (ws.drop 2).length + 2 <= ws.length \/ ws.length < 2 := by rw [List.length_drop]; omega
 have dl2 : (ws.drop 2).length = ws.length - 2 := List.length_drop
 simp only [z_read_kind_0, PWa, PWc, PWd, PWe, PWl, Sl.val, Sl.put, Sl.mut, Sl.pin, wipeA, unwipe, List.replicate, Nat.reduceAdd, Nat.reduceSub, Nat.reduceLeDiff, notPl, bne, Nat.reduceBEq, Int.reduceNeg, i0, c1, c2]
 have eg : ∀ {a b c : Option Sl}, gen0A 1 [] [a, b, c] = [none] := rfl
 rw [eg]
 refine col_tm (fun a => ∃ o, a = [o] /\ coldB o = true) Dv.str (ws.drop 2) (fun w => specV (spW w)) (by omega) ?_ ⟨_, rfl, rfl⟩ ?_
 ·rintro w hw a ⟨o, rfl, co⟩
  simp only [ve, co]
  refine read_spec_w (wd w hw) ?_
  simp only [ve]
  exact ⟨_, rfl, rfl⟩
 have ef : dFinT ((ws.drop 2).map fun w => specV (spW w)) = some (false, .tup .trk (((ws.drop 2).map spW).map specV)) := by
  unfold dFinT
  rw [List.map_map]
  rfl
 rw [ef]
 simp only [ve]
 have okQ : TOk equ := ⟨by decide +kernel, by decide +kernel⟩
 have eE : W (dEq (.lst (((ws[1]?).toList).map .str)) (.lst [.str (Str.ofString "=")])) = fun QB => QB (false, .bl (decide ((ws[1]?).toList = [equ]))) := by
  funext QB
  exact o_eqL (f := Dv.str) (f' := Dv.str) (k := PyData.str) (m := [equ]) (fun a b => eqv_str) (fun a ha => str_dd (wo a (by
   cases e : ws[1]? with
   | none => rw [e] at ha; cases ha
   | some y => rw [e] at ha; rw [List.mem_singleton.mp ha]; exact List.mem_of_getElem? e))) (fun a ha => by rw [List.mem_singleton.mp ha]; exact str_dd okQ)
 rw [eE]
 simp only [ve]
 have c1' : decide ((ws[1]?).toList = [equ]) = (decide (2 <= ws.length) && decide (ws.getD 1 ⟨#[]⟩ = equ)) := by
  rw [List.getD_eq_getElem?_getD]
  cases e : ws[1]? with
  | none =>
   have := List.getElem?_eq_none_iff.mp e
   have : decide (2 <= ws.length) = false := decide_eq_false (by omega)
   rw [this]
   rfl
  | some y =>
   have := (List.getElem?_eq_some_iff.mp e).1
   have : decide (2 <= ws.length) = true := decide_eq_true (by omega)
   rw [this]
   simp
 rw [c1']
 have eo : okW ws = ((decide (2 <= ws.length) && decide (ws.getD 1 ⟨#[]⟩ = equ)) && (decide (Nm (wA ws)) && ((ws.drop 2).all okP && decide (1 <= (ws.drop 2).length /\ (ws.drop 2).length <= 4)))) := by
  unfold okW
  rw [Bool.eq_iff_iff]
  simp only [Bool.and_eq_true, decide_eq_true_eq, dl2]
  constructor
  ·rintro ⟨a, b, c, d⟩
   exact ⟨⟨by omega, b⟩, c, d, by omega⟩
  ·rintro ⟨⟨a, b⟩, c, d, e⟩
   exact ⟨by omega, b, c, d⟩
 rw [eo] at q
 cases c3 : (decide (2 <= ws.length) && decide (ws.getD 1 ⟨#[]⟩ = equ)) with
 | false =>
  rw [c3, Bool.false_and, if_neg (by decide)] at q
  rw [if_neg (by decide)]
  exact q
 | true =>
  rw [c3, Bool.true_and] at q
  rw [if_pos rfl]
  have hw0 : TOk (wA ws) := wo _ (List.mem_of_getElem? g0)
  refine entry_w hw0 wd (by omega) ?_
  simp only [ve]
  generalize (decide (Nm (wA ws)) && ((ws.drop 2).all okP && decide (1 <= (ws.drop 2).length /\ (ws.drop 2).length <= 4))) = b at q ⊢
  cases b
  ·exact q
  ·exact q
end K06
namespace K06
open PySem PySem.Spec PyProof.Rows L2 NdefX GenE Sh Pu Cm Cn K02
theorem lname_w {x : Str} {Q : RD -> Prop} (h : TOk x) (q : Q ((false, .bl (decide (Nm x))), none)) : W (K06.p_law_name [.fz (.str x)]) Q := by
 have hlim : lim = 100000 := rfl
 obtain ⟨h1, h2⟩ := h
 have e1 : dLen (.str x) = some (false, .int x.length) := if_pos (by omega)
 have e2 : dLe (.int 1) (.int x.length) = some (false, .bl (decide ((1 : Int) <= x.length))) := rfl
 have e3 : dLe (.int x.length) (.int 8) = some (false, .bl (decide ((x.length : Int) <= 8))) := rfl
 unfold K06.p_law_name
 simp only [ve, e1, e2, e3, eqI]
 rw [nm_eq] at q
 have d1 : decide ((1 : Int) <= x.length) = decide (1 <= x.length) := decide_eq_decide.mpr (by omega)
 have d2 : decide ((x.length : Int) <= 8) = decide (x.length <= 8) := decide_eq_decide.mpr (by omega)
 rw [d1, d2]
 cases c1 : decide (1 <= x.length) with
 | false => rw [c1, Bool.false_and] at q; rw [if_neg (by decide)]; exact q
 | true =>
  rw [c1, Bool.true_and] at q
  rw [if_pos rfl]
  cases c2 : decide (x.length <= 8) with
  | false => rw [c2, Bool.false_and] at q; rw [if_neg (by decide)]; exact q
  | true =>
   rw [c2, Bool.true_and] at q
   rw [if_pos rfl]
   have hl : x.cps.toList.length <= 1000 := h2
   unfold signsD
   refine lc_ty _ (fun c => Dv.str ⟨#[c]⟩) x.cps.toList (fun c => !decide (97 <= c /\ c < 123)) (fun c => Dv.str ⟨#[c]⟩) hl (fun c hc => ?_) ?_
   ·have e4 : dNotIn (.str ⟨#[c]⟩) (.str (Str.ofString "abcdefghijklmnopqrstuvwxyz")) = some (false, .bl (!decide (97 <= c /\ c < 123))) := by
     have := letter_in (h1 c hc)
     unfold dIn at this
     unfold dNotIn
     obtain ⟨b, e5, e6⟩ := Option.map_eq_some_iff.mp this
     rw [e5]
     cases e6
     rfl
    simp only [ve, e4]
    split <;> trivial
   ·simp only [ve, List.length_map]
    have e5 : (((x.cps.toList.filter fun c => !decide (97 <= c /\ c < 123)).length : Int) == 0) = x.cps.toList.all fun c => decide (97 <= c /\ c < 123) := by
     rw [Bool.eq_iff_iff, beq_iff_eq, List.all_eq_true]
     constructor
     ·intro z c hc
      cases hb : decide (97 <= c /\ c < 123) with
      | true => rfl
      | false =>
       have : c ∈ x.cps.toList.filter fun c => !decide (97 <= c /\ c < 123) := List.mem_filter.mpr ⟨hc, by rw [hb]; rfl⟩
       have := List.length_pos_of_mem this
       omega
     ·intro z
      have : (x.cps.toList.filter fun c => !decide (97 <= c /\ c < 123)) = [] := List.filter_eq_nil_iff.mpr fun c hc => by rw [z c hc]; decide
      rw [this]
      rfl
    first
    | (rw [e5]; exact q)
    | (rw [eqI, e5]; exact q)
theorem neSS {a b : Str} {Q : Bool × Dv -> Prop} (ha : TOk a) (hb : TOk b) : W (dNe (.str a) (.str b)) Q = Q (false, .bl (!decide (a = b))) := by
 unfold dNe
 rw [str_dd (n := 19) ha, str_dd (n := 19) hb]
 simp only [eqv_str, w_some]
theorem pm_notin {x : Str} {Q : Bool × Dv -> Prop} (h : TOk x) : W (dNotIn (.str x) (.lst [.str (Str.ofString "+"), .str (Str.ofString "-")])) Q = Q (false, .bl (!decide (x = pls \/ x = mns))) := by
 have e0 : toDD 20 (.lst [.str (Str.ofString "+"), .str (Str.ofString "-")]) = some (.list [.str pls, .str mns]) := by
  show (mapO (toDD 19) [Dv.str (Str.ofString "+"), Dv.str (Str.ofString "-")]).map PyData.list = _
  simp only [mapO, dd_str (n := 18) (x := Str.ofString "+") (by decide +kernel), dd_str (n := 18) (x := Str.ofString "-") (by decide +kernel)]
  rfl
 have e1 : inD (.str x) (.lst [.str (Str.ofString "+"), .str (Str.ofString "-")]) = some (PyData.eqv (.str pls) (.str x) || PyData.eqv (.str mns) (.str x)) := by
  have : inD (.str x) (.lst [.str (Str.ofString "+"), .str (Str.ofString "-")]) = match toDD 20 (.str x), toDD 20 (.lst [.str (Str.ofString "+"), .str (Str.ofString "-")]) with
   | some d, some (.list ds) => some (ds.any fun z => PyData.eqv z d)
   | _, _ => none := rfl
  rw [this, str_dd (n := 19) h, e0]
  simp
 have e2 : (PyData.eqv (.str pls) (.str x) || PyData.eqv (.str mns) (.str x)) = decide (x = pls \/ x = mns) := by
  rw [eqv_str, eqv_str, Bool.eq_iff_iff, Bool.or_eq_true, decide_eq_true_eq, decide_eq_true_eq, decide_eq_true_eq]
  exact ⟨fun z => z.imp Eq.symm Eq.symm, fun z => z.imp Eq.symm Eq.symm⟩
 unfold dNotIn
 rw [e1, e2]
 simp only [Option.map_some, w_some]
theorem law_row_w {x : Str} {Q : RD -> Prop} (h : TOk x) (q : Q ((false, entV .nod x), none)) : W (K06.p_law_row [.fz (.str x)]) Q := by
 have hlim : lim = 100000 := rfl
 have wo := word_ok (y := spc) h
 obtain ⟨w1, w2⟩ := words_len (x := x) (y := spc)
 have h2 := h.2
 have eq0 : entV .nod x = (if okW (Txt.split x spc) = true then rowG (rowW (Txt.split x spc), .nod) else .non) := by
  unfold entV parse
  simp only
  split <;> rename_i hh
  ·split at hh
   ·rename_i e; cases hh; rw [if_pos e]
   ·cases hh
  ·split at hh
   ·cases hh
   ·rename_i e; rw [if_neg e]
 rw [eq0] at q
 unfold K06.p_law_row
 simp only [z_law_row_2, PWa, PWc, PWd, PWe, PWl, Sl.val, Sl.put, Sl.mut, Sl.pin, wipeA, unwipe, List.replicate, Nat.reduceAdd, Nat.reduceSub, Nat.reduceLeDiff, notPl, bne, Nat.reduceBEq, Int.reduceNeg, o_split]
 refine ⟨⟨by decide +kernel, by omega⟩, ?_⟩
 generalize Txt.split x spc = ws at q wo w1 w2
 have g0 : ws[0]? = some (wA ws) := by
  unfold wA
  rw [List.getD_eq_getElem?_getD, List.getElem?_eq_getElem (by omega)]
  rfl
 have i0 : dIx (.lst (ws.map .str)) (.int 0) = some (false, .str (wA ws)) := by
  have := at_nat (vs := ws.map Dv.str) (n := 0) (v := .str (wA ws)) (by rw [List.getElem?_map, g0]; rfl)
  simp only [dIx]
  rw [show (0 : Int) = ((0 : Nat) : Int) from rfl, this]
  rfl
 have c2 : cutL (ws.map Dv.str) (some 2) none = (ws.drop 2).map Dv.str := by rw [cutL_map]; exact congrArg _ (cut_from (n := 2))
 have wd : ∀ w ∈ ws.drop 2, TOk w := fun w hw => wo w (List.mem_of_mem_drop hw)
 have dl2 : (ws.drop 2).length = ws.length - 2 := List.length_drop
 simp only [z_law_row_1, PWa, PWc, PWd, PWe, PWl, Sl.val, Sl.put, Sl.mut, Sl.pin, wipeA, unwipe, List.replicate, Nat.reduceAdd, Nat.reduceSub, Nat.reduceLeDiff, notPl, bne, Nat.reduceBEq, Int.reduceNeg, List.length_map]
 have d3 : decide ((3 : Int) <= (ws.length : Int)) = decide (3 <= ws.length) := decide_eq_decide.mpr (by omega)
 have d6 : decide ((ws.length : Int) <= 6) = decide (ws.length <= 6) := decide_eq_decide.mpr (by omega)
 rw [d3, d6]
 have no : okW ws = false -> Q ((false, .non), none) := fun e => by rw [e, if_neg (by decide)] at q; exact q
 by_cases h3 : 3 <= ws.length
 ·rw [if_pos (decide_eq_true h3)]
  by_cases h6 : ws.length <= 6
  ·rw [if_neg (by simp [h6])]
   have g1 : ws[1]? = some (ws.getD 1 ⟨#[]⟩) := by
    rw [List.getD_eq_getElem?_getD, List.getElem?_eq_getElem (by omega)]
    rfl
   have a1 : atI (ws.map Dv.str) 1 = some (.str (ws.getD 1 ⟨#[]⟩)) := at_nat (n := 1) (by rw [List.getElem?_map, g1]; rfl)
   have a0 : atI (ws.map Dv.str) 0 = some (.str (wA ws)) := at_nat (n := 0) (by rw [List.getElem?_map, g0]; rfl)
   have t1 : TOk (ws.getD 1 ⟨#[]⟩) := wo _ (List.mem_of_getElem? g1)
   have t0 : TOk (wA ws) := wo _ (List.mem_of_getElem? g0)
   have okQ : TOk equ := ⟨by decide +kernel, by decide +kernel⟩
   simp only [a1, a0, w_some, neSS t1 okQ, PWa, PWc, PWd, PWe, PWl, Sl.val, Sl.put, Sl.mut, Sl.pin, wipeA, unwipe, List.replicate, Nat.reduceAdd, Nat.reduceSub, Nat.reduceLeDiff, notPl, bne, Nat.reduceBEq, Int.reduceNeg]
   by_cases c1 : ws.getD 1 ⟨#[]⟩ = equ
   ·rw [if_neg (by simp only [decide_eq_true c1]; decide)]
    refine lname_w t0 ?_
    simp only [ve]
    by_cases cn : Nm (wA ws)
    ·rw [if_neg (by simp only [decide_eq_true cn]; decide)]
     have eo : okW ws = (ws.drop 2).all okP := by
      unfold okW
      rw [decide_eq_true ⟨h3, h6⟩, decide_eq_true c1, decide_eq_true cn]
      rfl
     simp only [z_law_row_0, PWa, PWc, PWd, PWe, PWl, Sl.val, Sl.put, Sl.mut, Sl.pin, wipeA, unwipe, List.replicate, Nat.reduceAdd, Nat.reduceSub, Nat.reduceLeDiff, notPl, bne, Nat.reduceBEq, Int.reduceNeg, c2]
     refine for_ty Dv.str (ws.drop 2) (fun pre post a => ∃ o, a = [some (.fz (.str x)), some (.own (.lst (ws.map .str))), o] /\ fzoB o = true /\ pre.all okP = true) ?_ ?_ ⟨none, rfl, rfl, rfl⟩
     ·rintro pre w post a hl ⟨o, rfl, co, hp⟩
      have tw : TOk w := wd w (by rw [hl]; simp)
      have tw2 := tw.2
      simp only [ve, fzo_cold co, o_slS]
      refine ⟨by omega, ?_⟩
      rw [pm_notin (cut_ok tw)]
      simp only [ve]
      by_cases cp : hd w = pls \/ hd w = mns
      ·rw [if_neg (by simp only [decide_eq_true cp]; decide)]
       refine ⟨by omega, ?_⟩
       refine lname_w (cut_ok tw) ?_
       simp only [ve]
       by_cases cm : Nm (tl w)
       ·rw [if_neg (by simp only [decide_eq_true cm]; decide)]
        refine ⟨_, rfl, rfl, ?_⟩
        rw [List.all_append, hp]
        show (true && ((decide (Nm (tl w)) && decide (hd w = pls \/ hd w = mns)) && true)) = true
        rw [decide_eq_true cp, decide_eq_true cm]
        rfl
       ·rw [if_pos (by simp only [decide_eq_false cm]; decide)]
        refine no ?_
        rw [eo]
        refine List.all_eq_false.mpr ⟨w, by rw [hl]; simp, ?_⟩
        unfold okP
        rw [decide_eq_false cm, Bool.false_and]
        decide
      ·rw [if_pos (by simp only [decide_eq_false cp]; decide)]
       refine no ?_
       rw [eo]
       refine List.all_eq_false.mpr ⟨w, by rw [hl]; simp, ?_⟩
       unfold okP
       rw [decide_eq_false cp, Bool.and_false]
       decide
     ·rintro a ⟨o, rfl, co, hp⟩
      simp only [ve, a0, w_some, c2, co]
      refine lc_tm _ Dv.str (ws.drop 2) (fun w => specV (spW w)) (by omega) (fun w hw => ?_) ?_
      ·have tw2 := (wd w hw).2
       simp only [ve, o_slS]
       exact ⟨by omega, by omega, rfl⟩
      ·simp only [ve]
       rw [eo, if_pos hp] at q
       have er : (Dv.tup Tk.trk [.str (wA ws), .tup .nod ((ws.drop 2).map fun w => specV (spW w))]) = rowG (rowW ws, .nod) := by
        unfold rowG rowW
        rw [List.map_map]
        rfl
       rw [er]
       exact q
    ·rw [if_pos (by simp only [decide_eq_false cn]; decide)]
     refine no ?_
     unfold okW
     rw [decide_eq_false cn]
     simp
   ·rw [if_pos (by simp only [decide_eq_false c1]; decide)]
    refine no ?_
    unfold okW
    rw [decide_eq_false c1]
    simp
  ·rw [if_pos (by simp [h6])]
   exact no (by unfold okW; rw [decide_eq_false (fun z => h6 z.2)]; rfl)
 ·rw [if_neg (by simp [h3])]
  exact no (by unfold okW; rw [decide_eq_false (fun z => h3 z.1)]; rfl)
end K06
namespace K02
open PySem PySem.Spec PyProof.Rows L2 NdefX GenE Sh Pu Cm Cn
end K02
namespace K02
open PySem PySem.Spec PyProof.Rows L2 NdefX GenE Sh Pu Cm Cn
def stepB {α : Type} (k : α -> PyData) (l : List α) (i : Nat) : Bool := match l[i]?, l[i + 1]? with
 | some x, some y => PySem.W.dataLt (k x) (k y)
 | _, _ => true
def riseB {α : Type} (k : α -> PyData) (l : List α) : Bool := (List.range (l.length - 1)).all (stepB k l)
theorem rises_g {α : Type} {s : Sl} {d : Dv} {c : α -> Dv} {k : α -> PyData} {l : List α} {Q : RD -> Prop} (hs : Rdl s d) (hd : (∃ t, d = .tup t (l.map c)) \/ d = .lst (l.map c)) (hl : l.length <= 1000) (hk : ∀ x ∈ l, toDD 20 (c x) = some (k x)) (ha : ∀ x ∈ l, ∀ y ∈ l, PySem.W.alike (k x) (k y) = true) (hn : ∀ x ∈ l, notNone (k x) = true) (q : Q ((false, .bl (riseB k l)), none)) : W (p_rises [s]) Q := by
 have e0 : dLen d = some (false, .int (l.length : Int)) := by
  rcases hd with ⟨t, rfl⟩ | rfl <;> simp [dLen]
 have e1 : ∀ (i : Nat) (hi : i < l.length), dIx d (.int i) = some (false, c l[i]) := fun i hi => by
  have h1 : (l.map c)[i]? = some (c l[i]) := by rw [List.getElem?_map, List.getElem?_eq_getElem hi]; rfl
  rcases hd with ⟨t, rfl⟩ | rfl <;> simp only [dIx, at_nat h1, Option.map_some]
 have tn : ((l.length : Int) - 1).toNat = l.length - 1 := by omega
 have go : ∀ i ∈ List.range (l.length - 1), ∃ (i0 : i < l.length) (i1 : i + 1 < l.length), dAdd (natV i) (.int 1) = some (false, .int ((i + 1 : Nat) : Int)) /\ dIx d (natV i) = some (false, c l[i]) /\ dLtD (c l[i]) (c l[i + 1]) = some (false, .bl (stepB k l i)) := fun i hi => by
  have hi := List.mem_range.mp hi
  have i0 : i < l.length := by omega
  have i1 : i + 1 < l.length := by omega
  refine ⟨i0, i1, rfl, e1 i i0, ?_⟩
  unfold dLtD stepB
  simp only [hk _ (List.getElem_mem i0), hk _ (List.getElem_mem i1), List.getElem?_eq_getElem i0, List.getElem?_eq_getElem i1]
  rw [if_pos ⟨ha _ (List.getElem_mem i0) _ (List.getElem_mem i1), hn _ (List.getElem_mem i0)⟩]
 unfold p_rises
 rcases hs with rfl | rfl
 ·simp only [vd, e0, o_sub]
  refine ⟨⟨by omega, by omega⟩, ?_⟩
  rw [rngD_nat, tn]
  refine all_ty (fun a => ∃ o, a = [o, some (.bw d)] /\ coldB o = true) natV (stepB k l) (List.range (l.length - 1)) (fun i hi a => ?_) ⟨none, rfl, rfl⟩ q
  rintro ⟨o, rfl, co⟩
  obtain ⟨i0, i1, g1, g2, g3⟩ := go i hi
  simp only [vd, co, g2, g1, e1 (i + 1) i1, g3]
  exact ⟨_, rfl, rfl⟩
 ·simp only [vd, e0, o_sub]
  refine ⟨⟨by omega, by omega⟩, ?_⟩
  rw [rngD_nat, tn]
  refine all_ty (fun a => ∃ o, a = [o, some (.fz d)] /\ coldB o = true) natV (stepB k l) (List.range (l.length - 1)) (fun i hi a => ?_) ⟨none, rfl, rfl⟩ q
  rintro ⟨o, rfl, co⟩
  obtain ⟨i0, i1, g1, g2, g3⟩ := go i hi
  simp only [vd, co, g2, g1, e1 (i + 1) i1, g3]
  exact ⟨_, rfl, rfl⟩
end K02
namespace K06
open PySem PySem.Spec PyProof.Rows L2 NdefX GenE Sh Pu Cm Cn K02
theorem o_inSL {x : Str} {l : List Str} {Q : Bool × Dv -> Prop} (hx : TOk x) (hl : ∀ y ∈ l, TOk y) : W (dIn (.str x) (.lst (l.map .str))) Q = Q (false, .bl (decide (x ∈ l))) := by
 have e0 : toDD 20 (.lst (l.map .str)) = some (.list (l.map PyData.str)) := by
  show (mapO (toDD 19) (l.map Dv.str)).map PyData.list = _
  rw [mapO_map (g := toDD 19) (f := Dv.str) (k := PyData.str) fun y hy => str_dd (hl y hy)]
  rfl
 have e1 : inD (.str x) (.lst (l.map .str)) = some (decide (x ∈ l)) := by
  have : inD (.str x) (.lst (l.map .str)) = match toDD 20 (.str x), toDD 20 (.lst (l.map .str)) with
   | some d, some (.list ds) => some (ds.any fun z => PyData.eqv z d)
   | _, _ => none := rfl
  rw [this, str_dd (n := 19) hx, e0]
  simp only
  congr 1
  rw [List.any_map, Bool.eq_iff_iff, List.any_eq_true, decide_eq_true_eq]
  constructor
  ·rintro ⟨y, hy, e⟩
   have e : decide (y = x) = true := by rw [<- eqv_str]; exact e
   rw [<- of_decide_eq_true e]
   exact hy
  ·exact fun h => ⟨x, h, by show PyData.eqv (.str x) (.str x) = true; rw [eqv_str, decide_eq_true rfl]⟩
 unfold dIn
 rw [e1]
 simp only [Option.map_some, w_some]
abbrev srtW (rs : List RowT) : List RowT := rs.mergeSort (PySem.W.dataLe false rowD)
theorem sort_tag {rs : List RowT} {t : Tk} : sortG (rs.map fun r => (r, t)) = (srtW rs).map fun r => (r, t) := by
 unfold sortG srtW
 exact (PySem.W.sort_maps (r := PySem.W.dataLe false rowD) (s := PySem.W.dataLe false fun x : RowT × Tk => rowD x.1) (fun r : RowT => (r, t)) (fun a _ b _ => rfl)).symm
theorem rowD_lt {a b : RowT} (h : PySem.W.dataLe false rowD a b = true) (ne : a.1 ≠ b.1) : PySem.W.dataLt (.str a.1) (.str b.1) = true := by
 have hab : (Sum.inr a.1.cps.toList : Int ⊕ List Nat) ≠ Sum.inr b.1.cps.toList := fun z => ne (PySem.W.str_of_cps (Sum.inr.inj z))
 have h1 : PyProof.Rows.lexLt itemOrd (PySem.W.keyToks (rowD b)) (PySem.W.keyToks (rowD a)) = false := by
  have : (!PyProof.Rows.lexLt itemOrd (PySem.W.keyToks (rowD b)) (PySem.W.keyToks (rowD a))) = true := h
  simpa using this
 have e : ∀ r : RowT, PySem.W.keyToks (rowD r) = [.inl 1] ++ (.inr r.1.cps.toList :: PySem.W.keyToksAll [.tuple (r.2.map specD)]) := fun r => by
  show PySem.W.keyToksAll [.str r.1, .tuple (r.2.map specD)] = _
  simp only [PySem.W.keyToksAll, PySem.W.keyToks]
  rfl
 rw [e, e, PySem.W.lex_pre, PySem.W.lex_atom (Ne.symm hab)] at h1
 show PyProof.Rows.lexLt itemOrd [.inr a.1.cps.toList] [.inr b.1.cps.toList] = true
 cases h2 : PyProof.Rows.lexLt itemOrd [.inr a.1.cps.toList] [.inr b.1.cps.toList] with
 | true => rfl
 | false =>
  have := (PyProof.Rows.listOrd itemOrd).total [.inr a.1.cps.toList] [.inr b.1.cps.toList] h2 h1
  exact absurd (List.cons.inj this).1 hab
theorem le_tot : PySem.W.TotalLe (PySem.W.dataLe false rowD) := PySem.W.sortLe_total _ _ _
/-- sorted rows of unlike kinds rise -/
theorem kinds_rise {rs : List RowT} (nd : (rs.map (·.1)).Nodup) : riseB PyData.str ((srtW rs).map (·.1)) = true := by
 have pw : (srtW rs).Pairwise fun a b => PySem.W.dataLe false rowD a b = true := List.pairwise_mergeSort (fun a b c => le_tot.trans a b c) (fun a b => by simpa using le_tot.total a b) rs
 have pm : (srtW rs).Perm rs := List.mergeSort_perm _ _
 have nd' : ((srtW rs).map (·.1)).Nodup := (pm.map _).nodup_iff.mpr nd
 unfold riseB
 rw [List.all_eq_true]
 intro i hi
 rw [List.length_map, List.mem_range] at hi
 have i0 : i < (srtW rs).length := by omega
 have i1 : i + 1 < (srtW rs).length := by omega
 unfold stepB
 rw [List.getElem?_map, List.getElem?_map, List.getElem?_eq_getElem i0, List.getElem?_eq_getElem i1]
 refine rowD_lt (List.pairwise_iff_getElem.mp pw i (i + 1) i0 i1 (by omega)) fun z => ?_
 have := List.pairwise_iff_getElem.mp nd' i (i + 1) (by rw [List.length_map]; omega) (by rw [List.length_map]; omega) (by omega)
 rw [List.getElem_map, List.getElem_map] at this
 exact this z
theorem stock_w {rs : List RowT} {t : Tk} {Q : RD -> Prop} (h : ∀ r ∈ rs, RowOk r) (nd : (rs.map (·.1)).Nodup) (hl : rs.length <= 100) (q : Q ((false, .bl (decide (1 <= rs.length /\ rs.length <= 8))), none)) : W (p_is_stock [.fz (.tup t (((srtW rs).map fun r => (r, Tk.trk)).map rowG))]) Q := by
 have hlim : lim = 100000 := rfl
 have pm : (srtW rs).Perm rs := List.mergeSort_perm _ _
 have hk := kinds_rise nd
 have hr : ∀ r ∈ srtW rs, RowOk r := fun r hr => h r (pm.mem_iff.mp hr)
 have ln := pm.length_eq
 generalize srtW rs = ss at hk hr ln
 unfold p_is_stock
 simp only [z_is_stock_1, PWa, PWc, PWd, PWe, PWl, Sl.val, Sl.put, Sl.mut, Sl.pin, wipeA, unwipe, List.replicate, Nat.reduceAdd, Nat.reduceSub, Nat.reduceLeDiff, notPl, bne, Nat.reduceBEq, Int.reduceNeg, k_tt, List.length_map]
 have d1 : decide ((1 : Int) <= (ss.length : Int)) = decide (1 <= rs.length) := decide_eq_decide.mpr (by omega)
 have d8 : decide ((ss.length : Int) <= 8) = decide (rs.length <= 8) := decide_eq_decide.mpr (by omega)
 rw [d1, d8]
 by_cases h1 : 1 <= rs.length
 ·rw [if_pos (decide_eq_true h1)]
  by_cases h8 : rs.length <= 8
  ·rw [if_neg (by simp [h8])]
   rw [decide_eq_true ⟨h1, h8⟩] at q
   simp only [z_is_stock_0, PWa, PWc, PWd, PWe, PWl, Sl.val, Sl.put, Sl.mut, Sl.pin, wipeA, unwipe, List.replicate, Nat.reduceAdd, Nat.reduceSub, Nat.reduceLeDiff, notPl, bne, Nat.reduceBEq, Int.reduceNeg]
   rw [List.map_map]
   refine all_ty (fun a => ∃ o, a = [o] /\ coldB o = true) (rowG ∘ fun r => (r, Tk.trk)) (fun _ => true) ss (fun r hr' a => ?_) ⟨none, rfl, rfl⟩ ?_
   ·rintro ⟨o, rfl, co⟩
    simp only [ve, co]
    refine entryR_w (t := .trk) (hr r hr') ?_
    simp only [ve]
    exact ⟨_, rfl, rfl⟩
   ·have ea : (ss.all fun _ => true) = true := by simp
    simp only [ea, PWa, PWc, PWd, PWe, PWl, Sl.val, Sl.put, Sl.mut, Sl.pin, wipeA, unwipe, List.replicate, Nat.reduceAdd, Nat.reduceSub, Nat.reduceLeDiff, notPl, bne, Nat.reduceBEq, Int.reduceNeg]
    refine lc_tm _ (rowG ∘ fun r => (r, Tk.trk)) ss (fun r => .str r.1) (by omega) (fun r _ => ?_) ?_
    ·have g0 : dIx (rowG (r, Tk.trk)) (.int 0) = some (false, .str r.1) := rfl
     simp only [ve, Function.comp, g0]
    ·simp only [ve]
     have er : ss.map (fun r => Dv.str r.1) = (ss.map (·.1)).map Dv.str := by rw [List.map_map]; rfl
     rw [er]
     refine rises_g (c := Dv.str) (k := PyData.str) (l := ss.map (·.1)) (.inl rfl) (.inr rfl) (by rw [List.length_map]; omega) (fun x hx => ?_) (fun x _ y _ => rfl) (fun x _ => rfl) ?_
     ·obtain ⟨r, hr', rfl⟩ := List.mem_map.mp hx
      exact str_dd (nm_tok (hr r hr').1)
     ·rw [hk]
      simp only [ve]
      exact q
  ·rw [if_pos (by simp [h8])]
   rw [decide_eq_false (fun z => h8 z.2)] at q
   exact q
 ·rw [if_neg (by simp [h1])]
  rw [decide_eq_false (fun z => h1 z.1)] at q
  exact q
end K06
namespace K06
open PySem PySem.Spec PyProof.Rows L2 NdefX GenE Sh Pu Cm Cn K02
theorem rows_len {xs : List Str} {rs : List RowT} (h : xs.map parse = rs.map some) : rs.length = xs.length := by
 have := congrArg List.length h
 simpa using this.symm
theorem rows_ok {xs : List Str} {rs : List RowT} (h : xs.map parse = rs.map some) : ∀ r ∈ rs, RowOk r := fun r hr => by
 have : some r ∈ rs.map some := List.mem_map.mpr ⟨r, hr, rfl⟩
 rw [<- h] at this
 obtain ⟨x, _, e⟩ := List.mem_map.mp this
 exact parse_ok e
theorem rows_ent {xs : List Str} {rs : List RowT} {t : Tk} (h : xs.map parse = rs.map some) : xs.map (entV t) = (rs.map fun r => (r, t)).map rowG := by
 have : xs.map (entV t) = (xs.map parse).map fun o => match o with | some r => rowG (r, t) | none => .non := by rw [List.map_map]; rfl
 rw [this, h, List.map_map, List.map_map]
 rfl
/-- the first of its kind that stands ahead already -/
def Agn (rs : List RowT) (i : Nat) (r : RowT) : Prop := rs[i]? = some r /\ r.1 ∈ (rs.take i).map (·.1) /\ ((rs.take i).map (·.1)).Nodup
theorem parse_cases : ∀ (xs : List Str), (∃ i x, xs[i]? = some x /\ parse x = none /\ ∀ y ∈ xs.take i, parse y ≠ none) \/ ∃ rs : List RowT, xs.map parse = rs.map some
 | [] => .inr ⟨[], rfl⟩
 | x :: xs => by
  cases e : parse x with
  | none => exact .inl ⟨0, x, rfl, e, by simp⟩
  | some r =>
   rcases parse_cases xs with ⟨i, y, h1, h2, h3⟩ | ⟨rs, h⟩
   ·refine .inl ⟨i + 1, y, h1, h2, fun z hz => ?_⟩
    rw [List.take_succ_cons] at hz
    rcases List.mem_cons.mp hz with rfl | hz
    ·rw [e]; exact nofun
    ·exact h3 z hz
   ·exact .inr ⟨r :: rs, by rw [List.map_cons, e, h]; rfl⟩
theorem agn_cases : ∀ (n : Nat) (rs : List RowT), n <= rs.length -> (∃ i r, i < n /\ Agn rs i r) \/ ((rs.take n).map (·.1)).Nodup
 | 0, _, _ => .inr (by simp)
 | n + 1, rs, h => by
  rcases agn_cases n rs (by omega) with ⟨i, r, hi, A⟩ | nd
  ·exact .inl ⟨i, r, by omega, A⟩
  ·have e : rs[n]? = some rs[n] := List.getElem?_eq_getElem (by omega)
   by_cases hm : rs[n].1 ∈ (rs.take n).map (·.1)
   ·exact .inl ⟨n, rs[n], by omega, e, hm, nd⟩
   ·refine .inr ?_
    rw [List.take_succ, e, List.map_append]
    refine List.nodup_append.mpr ⟨nd, by simp, fun a ha b hb z => ?_⟩
    rw [Option.toList_some, List.map_singleton, List.mem_singleton] at hb
    rw [<- z] at hb
    exact hm (hb ▸ ha)
theorem rows_dis (rs : List RowT) : (∃ i r, Agn rs i r) \/ (rs.map (·.1)).Nodup := by
 rcases agn_cases rs.length rs (Nat.le_refl _) with ⟨i, r, _, A⟩ | nd
 ·exact .inl ⟨i, r, A⟩
 ·rw [List.take_length] at nd
  exact .inr nd
theorem ent_is {t : Tk} {x : Str} : dIs (entV t x) .non = some (false, .bl (parse x).isNone) := by
 unfold entV
 cases parse x <;> rfl
theorem take_len {α : Type} {l : List α} {n : Nat} {x : α} (h : l[n]? = some x) : l.take (n + 1) = l.take n ++ [x] := by
 rw [List.take_succ, h]
 rfl
theorem read_stock_w {xs : List Str} {Q : RD -> Prop} (hx : ∀ x ∈ xs, TOk x) (hl : xs.length <= 60)
  (q0 : ∀ (i : Nat) x, xs[i]? = some x -> parse x = none -> (∀ y ∈ xs.take i, parse y ≠ none) -> Q ((false, .exc "NoText" "at" [natV i]), none))
  (q1 : ∀ (rs : List RowT) i r, xs.map parse = rs.map some -> Agn rs i r -> Q ((false, .exc "Twice" "name" [.str r.1]), none))
  (q2 : ∀ (rs : List RowT), xs.map parse = rs.map some -> (rs.map (·.1)).Nodup -> ¬ (1 <= rs.length /\ rs.length <= 8) -> Q ((false, .exc "NoStock" "" []), none))
  (q3 : ∀ (rs : List RowT), xs.map parse = rs.map some -> (rs.map (·.1)).Nodup -> (1 <= rs.length /\ rs.length <= 8) -> Q ((false, .tup .nod (((srtW rs).map fun r => (r, Tk.trk)).map rowG)), none)) : W (p_read_stock [.bw (.lst (xs.map .str))]) Q := by
 have hlim : lim = 100000 := rfl
 unfold p_read_stock
 simp only [z_read_stock_5, PWa, PWc, PWd, PWe, PWl, Sl.val, Sl.put, Sl.mut, Sl.pin, wipeA, unwipe, List.replicate, Nat.reduceAdd, Nat.reduceSub, Nat.reduceLeDiff, notPl, bne, Nat.reduceBEq, Int.reduceNeg]
 refine lc_tm _ Dv.str xs (entV .trk) (by omega) (fun x hx' => ?_) ?_
 ·simp only [ve]
  refine read_kind_w (hx x hx') ?_
  simp only [ve]
 simp only [ve, z_read_stock_4, enD_map]
 refine for_ty (fun x : Str × Nat => Dv.tup .trk [natV x.2, entV .trk x.1]) xs.zipIdx (fun pre post a => ∃ o4 o5 : Option Sl, a = [some (.bw (.lst (xs.map .str))), some (.hd (.lst (xs.map (entV .trk)))), none, none, o4, o5, none, none] /\ coldB o4 = true /\ fzoB o5 = true /\ ∀ y ∈ xs.take pre.length, parse y ≠ none) ?_ ?_ ⟨none, none, rfl, rfl, rfl, by simp⟩
 ·rintro pre ⟨x, k⟩ post a hz ⟨o4, o5, rfl, c4, c5, hp⟩
  obtain ⟨rfl, hxk⟩ := zip_at hz
  have pl : (pre ++ [(x, pre.length)]).length = pre.length + 1 := by simp
  simp only [ve, c4, fzo_cold c5, ent_is]
  cases e : parse x with
  | none =>
   rw [if_pos (by decide)]
   exact q0 _ _ hxk e hp
  | some r =>
   rw [if_neg (by simp)]
   refine ⟨_, _, rfl, rfl, rfl, fun y hy => ?_⟩
   rw [pl, take_len hxk] at hy
   rcases List.mem_append.mp hy with hy | hy
   ·exact hp y hy
   ·rw [List.mem_singleton.mp hy, e]
    exact nofun
 ·rintro a ⟨o4, o5, rfl, c4, c5, hp⟩
  rw [List.length_zipIdx, List.take_length] at hp
  obtain ⟨rs, hrs⟩ : ∃ rs : List RowT, xs.map parse = rs.map some := by
   rcases parse_cases xs with ⟨i, x, h1, h2, _⟩ | h
   ·exact absurd h2 (hp x (List.mem_of_getElem? h1))
   ·exact h
  have rl := rows_len hrs
  have rok := rows_ok hrs
  have Q1 := fun i r => q1 rs i r hrs
  have Q2 := q2 rs hrs
  have Q3 := q3 rs hrs
  rw [rows_ent hrs]
  simp only [ve, z_read_stock_3, c5]
  rw [List.map_map]
  refine lc_tm _ (rowG ∘ fun r => (r, Tk.trk)) rs (fun r => .str r.1) (by omega) (fun r _ => ?_) ?_
  ·have g0 : dIx (rowG (r, Tk.trk)) (.int 0) = some (false, .str r.1) := rfl
   simp only [ve, Function.comp, g0]
  simp only [ve, z_read_stock_2, enD_map]
  refine for_ty (fun x : RowT × Nat => Dv.tup .trk [natV x.2, .str x.1.1]) rs.zipIdx (fun pre post a => ∃ o4 o6 : Option Sl, a = [some (.bw (.lst (xs.map .str))), some (.own (.lst (rs.map (rowG ∘ fun r => (r, Tk.trk))))), some (.hd (.lst (rs.map fun r => .str r.1))), none, o4, o5, o6, none] /\ coldB o4 = true /\ coldB o6 = true /\ ((rs.take pre.length).map (·.1)).Nodup) ?_ ?_ ⟨o4, none, rfl, c4, rfl, by simp⟩
  ·rintro pre ⟨r, k⟩ post a hz ⟨o4, o6, rfl, c4, c6, nd⟩
   obtain ⟨rfl, hrk⟩ := zip_at hz
   have pl : (pre ++ [(r, pre.length)]).length = pre.length + 1 := by simp
   have hrl := (List.getElem?_eq_some_iff.mp hrk).1
   have ec : cutL (rs.map fun r => Dv.str r.1) none (some (pre.length : Int)) = ((rs.take pre.length).map (·.1)).map Dv.str := by
    have : (rs.map fun r => Dv.str r.1) = (rs.map (·.1)).map Dv.str := by rw [List.map_map]; rfl
    rw [this, cutL_a (by rw [List.length_map, List.length_map]; exact hrl), List.map_take, List.map_take]
   have rr := rok r (List.mem_of_getElem? hrk)
   have ein := fun {QD : Bool × Dv -> Prop} => o_inSL (x := r.1) (l := (rs.take pre.length).map (·.1)) (Q := QD) (nm_tok rr.1) (fun y hy => by
    obtain ⟨r', hr', rfl⟩ := List.mem_map.mp hy
    exact nm_tok (rok r' (List.mem_of_mem_take hr')).1)
   simp only [ve, c4, c6, ec, ein]
   by_cases hm : r.1 ∈ (rs.take pre.length).map (·.1)
   ·rw [if_pos (decide_eq_true hm)]
    exact Q1 pre.length r ⟨hrk, hm, nd⟩
   ·rw [if_neg (by simp only [decide_eq_false hm]; decide)]
    refine ⟨_, _, rfl, rfl, rfl, ?_⟩
    rw [pl, take_len hrk, List.map_append, List.map_singleton]
    refine List.nodup_append.mpr ⟨nd, by simp, fun a ha b hb z => ?_⟩
    rw [List.mem_singleton] at hb
    rw [<- z] at hb
    exact hm (hb ▸ ha)
  ·rintro a ⟨o4, o6, rfl, c4, c6, nd⟩
   rw [List.length_zipIdx, List.take_length] at nd
   have es : dSorted (.lst (rs.map (rowG ∘ fun r => (r, Tk.trk)))) = some (true, .lst (((srtW rs).map fun r => (r, Tk.trk)).map rowG)) := by
    have := sorted_rowsG (l := rs.map fun r => (r, Tk.trk)) (fun x hx => by
     obtain ⟨r, hr, rfl⟩ := List.mem_map.mp hx
     exact rok r hr)
    rw [sort_tag, List.map_map] at this
    exact this
   simp only [ve, z_read_stock_1, sortedX_l, es, z_read_stock_0]
   refine stock_w rok nd (by omega) ?_
   simp only [ve]
   by_cases hc : 1 <= rs.length /\ rs.length <= 8
   ·rw [if_neg (by simp only [decide_eq_true hc]; decide)]
    exact Q3 nd hc
   ·rw [if_pos (by simp only [decide_eq_false hc]; decide)]
    exact Q2 nd hc
end K06
namespace K06
open PySem PySem.Spec PyProof.Rows L2 NdefX GenE Sh Pu Cm Cn K02
theorem cs_T : csOf cst_law_asked_0 "NoText" = some true := by decide +kernel
theorem cs_0W : csOf cst_law_asked_0 "Twice" = some false := by decide +kernel
theorem cs_0S : csOf cst_law_asked_0 "NoStock" = some false := by decide +kernel
theorem cs_1W : csOf cst_law_asked_1 "Twice" = some true := by decide +kernel
theorem cs_1S : csOf cst_law_asked_1 "NoStock" = some false := by decide +kernel
theorem cs_2S : csOf cst_law_asked_2 "NoStock" = some true := by decide +kernel
/-- which class it is: the n-th -/
def ksB (n : Nat) : List Bool := (List.range 9).map (fun k => decide (k = n)) ++ [true]
theorem kb_0 : kbOf kbt_law_asked_0 "NoText" = some (ksB 0) := by decide +kernel
theorem kb_1 : kbOf kbt_law_asked_1 "Twice" = some (ksB 1) := by decide +kernel
theorem kb_2 : kbOf kbt_law_asked_2 "NoStock" = some (ksB 2) := by decide +kernel
theorem asked_w {xs : List Str} {Q : RD -> Prop} (hx : ∀ x ∈ xs, TOk x) (hl : xs.length <= 60)
  (q0 : ∀ (i : Nat) x, xs[i]? = some x -> parse x = none -> (∀ y ∈ xs.take i, parse y ≠ none) -> Q ((false, .tup .trk [.non, .lst ((ksB 0).map .bl), natV i]), none))
  (q1 : ∀ (rs : List RowT) i r, xs.map parse = rs.map some -> Agn rs i r -> Q ((false, .tup .trk [.non, .lst ((ksB 1).map .bl), .str r.1]), none))
  (q2 : ∀ (rs : List RowT), xs.map parse = rs.map some -> (rs.map (·.1)).Nodup -> ¬ (1 <= rs.length /\ rs.length <= 8) -> Q ((false, .tup .trk [.non, .lst ((ksB 2).map .bl), .non]), none))
  (q3 : ∀ (rs : List RowT), xs.map parse = rs.map some -> (rs.map (·.1)).Nodup -> (1 <= rs.length /\ rs.length <= 8) -> Q ((false, .tup .trk [.tup .nod (((srtW rs).map fun r => (r, Tk.trk)).map rowG), .lst [], .non]), none)) : W (p_law_asked [.bw (.lst (xs.map .str))]) Q := by
 unfold p_law_asked
 simp only [ve, z_law_asked_9, z_law_asked_8, z_law_asked_7, z_law_asked_6]
 refine read_stock_w hx hl (fun i x h1 h2 h3 => ?_) (fun rs i r h A => ?_) (fun rs h nd hc => ?_) fun rs h nd hc => ?_
 ·simp only [ve, w_csTwo, w_qTwo, cs_T, kb_0, w_some]
  exact ⟨by decide, q0 i x h1 h2 h3⟩
 ·simp only [ve, w_csTwo, w_qTwo, cs_0W, cs_1W, kb_1, w_some]
  exact ⟨by decide, q1 rs i r h A⟩
 ·simp only [ve, w_csTwo, w_qTwo, cs_0S, cs_1S, cs_2S, kb_2, w_some]
  exact ⟨by decide, q2 rs h nd hc⟩
 ·simp only [ve]
  exact q3 rs h nd hc
theorem filt_first {b : Nat -> Bool} {n i : Nat} {t : List Nat} (h : (List.range n).filter b = i :: t) : i < n /\ b i = true /\ ∀ j, j < i -> b j = false := by
 have hm : i ∈ (List.range n).filter b := by rw [h]; exact .head _
 obtain ⟨h1, h2⟩ := List.mem_filter.mp hm
 have h1 := List.mem_range.mp h1
 have pw : ((List.range n).filter b).Pairwise (· < ·) := List.Pairwise.filter _ List.pairwise_lt_range
 rw [h] at pw
 refine ⟨h1, h2, fun j hj => ?_⟩
 cases e : b j with
 | false => rfl
 | true =>
  have : j ∈ (List.range n).filter b := List.mem_filter.mpr ⟨List.mem_range.mpr (by omega), e⟩
  rw [h] at this
  rcases List.mem_cons.mp this with rfl | hm
  ·omega
  ·have := (List.pairwise_cons.mp pw).1 j hm
   omega
theorem nats_ne {l : List Nat} {Q : Bool × Dv -> Prop} : W (dNe (.lst (l.map natV)) (.lst [])) Q = Q (false, .bl (!l.isEmpty)) := by
 have e0 : toDD 20 (.lst (l.map natV)) = some (.list (l.map fun k : Nat => PyData.int (k : Int))) := by
  show (mapO (toDD 19) (l.map natV)).map PyData.list = _
  rw [mapO_map (g := toDD 19) (f := natV) (k := fun k : Nat => PyData.int (k : Int)) fun x _ => rfl]
  rfl
 have e1 : toDD 20 (.lst []) = some (.list []) := rfl
 unfold dNe
 rw [e0, e1]
 cases l <;> simp [PyData.eqv, PyData.eqvAll, w_some]
/-- is the k-th none -/
def badB (xs : List Str) (k : Nat) : Bool := match xs[k]? with
 | some x => (parse x).isNone
 | none => false
def agnB (rs : List RowT) (k : Nat) : Bool := match rs[k]? with
 | some r => decide (r.1 ∈ (rs.take k).map (·.1))
 | none => false
theorem due_w {xs : List Str} {Q : RD -> Prop} (hx : ∀ x ∈ xs, TOk x) (hl : xs.length <= 60)
  (q0 : ∀ (i : Nat) x, xs[i]? = some x -> parse x = none -> (∀ y ∈ xs.take i, parse y ≠ none) -> Q ((false, .tup .trk [.non, .int 0, natV i]), none))
  (q1 : ∀ (rs : List RowT) i r, xs.map parse = rs.map some -> Agn rs i r -> Q ((false, .tup .trk [.non, .int 1, .str r.1]), none))
  (q2 : ∀ (rs : List RowT), xs.map parse = rs.map some -> (rs.map (·.1)).Nodup -> ¬ (1 <= rs.length /\ rs.length <= 8) -> Q ((false, .tup .trk [.non, .int 2, .non]), none))
  (q3 : ∀ (rs : List RowT), xs.map parse = rs.map some -> (rs.map (·.1)).Nodup -> (1 <= rs.length /\ rs.length <= 8) -> Q ((false, .tup .trk [.tup .nod (((srtW rs).map fun r => (r, Tk.nod)).map rowG), .non, .non]), none)) : W (K06.p_law_due [.fz (.lst (xs.map .str))]) Q := by
 have hlim : lim = 100000 := rfl
 unfold K06.p_law_due
 simp only [z_law_due_6, PWa, PWc, PWd, PWe, PWl, Sl.val, Sl.put, Sl.mut, Sl.pin, wipeA, unwipe, List.replicate, Nat.reduceAdd, Nat.reduceSub, Nat.reduceLeDiff, notPl, bne, Nat.reduceBEq, Int.reduceNeg]
 refine lc_tm _ Dv.str xs (entV .nod) (by omega) (fun x hx' => ?_) ?_
 ·simp only [ve]
  refine law_row_w (hx x hx') ?_
  simp only [ve]
 simp only [ve, z_law_due_5, List.length_map]
 refine ⟨by omega, ?_⟩
 rw [Int.toNat_natCast, rngD_nat]
 have at_x : ∀ k, k < xs.length -> ∃ x, xs[k]? = some x /\ dIx (.lst (xs.map (entV .nod))) (natV k) = some (false, entV .nod x) := fun k hk => by
  refine ⟨xs[k], List.getElem?_eq_getElem hk, ?_⟩
  have := at_nat (vs := xs.map (entV .nod)) (n := k) (v := entV .nod xs[k]) (by rw [List.getElem?_map, List.getElem?_eq_getElem hk]; rfl)
  simp only [dIx, natV, this, Option.map_some]
 refine lc_ty _ natV (List.range xs.length) (badB xs) natV (by simp; omega) (fun k hk => ?_) ?_
 ·obtain ⟨x, e1, e2⟩ := at_x k (List.mem_range.mp hk)
  have eb : badB xs k = (parse x).isNone := by unfold badB; rw [e1]
  simp only [ve, e2, ent_is, eb]
  split <;> trivial
 simp only [ve, z_law_due_4, nats_ne]
 cases hb : (List.range xs.length).filter (badB xs) with
 | cons i t =>
  obtain ⟨hi, b1, b2⟩ := filt_first hb
  obtain ⟨x, e1, _⟩ := at_x i hi
  have bx : parse x = none := by
   unfold badB at b1
   rw [e1] at b1
   exact Option.isNone_iff_eq_none.mp b1
  rw [if_pos (by simp)]
  have a0 : atI ((i :: t).map natV) 0 = some (natV i) := at_nat (n := 0) rfl
  rw [a0, w_some]
  refine q0 i x e1 bx fun y hy => ?_
  obtain ⟨j, hj⟩ := List.getElem?_of_mem hy
  rw [List.getElem?_take] at hj
  split at hj
  ·rename_i hji
   have := b2 j hji
   unfold badB at this
   rw [hj] at this
   intro z
   simp only [z] at this
   cases this
  ·cases hj
 | nil =>
  rw [if_neg (by decide)]
  obtain ⟨rs, hrs⟩ : ∃ rs : List RowT, xs.map parse = rs.map some := by
   rcases parse_cases xs with ⟨i, x, h1, h2, _⟩ | h
   ·have : i ∈ (List.range xs.length).filter (badB xs) := List.mem_filter.mpr ⟨List.mem_range.mpr (List.getElem?_eq_some_iff.mp h1).1, by unfold badB; rw [h1]; simp only [h2]; rfl⟩
    rw [hb] at this
    cases this
   ·exact h
  have rl := rows_len hrs
  have rok := rows_ok hrs
  have Q1 := fun i r => q1 rs i r hrs
  have Q2 := q2 rs hrs
  have Q3 := q3 rs hrs
  rw [rows_ent hrs]
  simp only [ve, z_law_due_3]
  rw [List.map_map]
  refine lc_tm _ (rowG ∘ fun r => (r, Tk.nod)) rs (fun r => .str r.1) (by omega) (fun r _ => ?_) ?_
  ·have g0 : dIx (rowG (r, Tk.nod)) (.int 0) = some (false, .str r.1) := rfl
   simp only [ve, Function.comp, g0]
  have at_r : ∀ k, k < rs.length -> ∃ r, rs[k]? = some r /\ dIx (.lst (rs.map fun r => .str r.1)) (natV k) = some (false, .str r.1) := fun k hk => by
   refine ⟨rs[k], List.getElem?_eq_getElem hk, ?_⟩
   have := at_nat (vs := rs.map fun r => Dv.str r.1) (n := k) (v := .str rs[k].1) (by rw [List.getElem?_map, List.getElem?_eq_getElem hk]; rfl)
   simp only [dIx, natV, this, Option.map_some]
  simp only [ve, z_law_due_2, List.length_map]
  refine ⟨by omega, ?_⟩
  rw [Int.toNat_natCast, rngD_nat]
  refine lc_ty _ natV (List.range rs.length) (agnB rs) natV (by simp; omega) (fun k hk => ?_) ?_
  ·have hk := List.mem_range.mp hk
   obtain ⟨r, e1, e2⟩ := at_r k hk
   have eb : agnB rs k = decide (r.1 ∈ (rs.take k).map (·.1)) := by unfold agnB; rw [e1]
   have ec : cutL (rs.map fun r => Dv.str r.1) none (some (k : Int)) = ((rs.take k).map (·.1)).map Dv.str := by
    rw [cutL_a (by rw [List.length_map]; exact hk), <- List.map_take, List.map_map]
    rfl
   have rr := rok r (List.mem_of_getElem? e1)
   have ein := fun {QD : Bool × Dv -> Prop} => o_inSL (x := r.1) (l := (rs.take k).map (·.1)) (Q := QD) (nm_tok rr.1) (fun y hy => by
    obtain ⟨r', hr', rfl⟩ := List.mem_map.mp hy
    exact nm_tok (rok r' (List.mem_of_mem_take hr')).1)
   simp only [ve, e2]
   simp only [natV, PWa, PWc, PWd, PWe, PWl, Sl.val, Sl.put, Sl.mut, Sl.pin, wipeA, unwipe, List.replicate, Nat.reduceAdd, Nat.reduceSub, Nat.reduceLeDiff, notPl, bne, Nat.reduceBEq, Int.reduceNeg, ec, ein, eb]
   split <;> trivial
  simp only [ve, z_law_due_1, nats_ne]
  cases ha : (List.range rs.length).filter (agnB rs) with
  | cons i t =>
   obtain ⟨hi, b1, b2⟩ := filt_first ha
   obtain ⟨r, e1, e2⟩ := at_r i hi
   have a0 : dIx (.lst ((i :: t).map natV)) (.int 0) = some (false, natV i) := by simp only [List.map_cons, dIx, at0, Option.map_some]
   rw [if_pos (by simp)]
   have hm : r.1 ∈ (rs.take i).map (·.1) := by
    unfold agnB at b1
    rw [e1] at b1
    exact of_decide_eq_true b1
   have nd : ((rs.take i).map (·.1)).Nodup := by
    rcases agn_cases i rs (by omega) with ⟨j, r', hj, A⟩ | nd
    ·have := b2 j hj
     unfold agnB at this
     rw [A.1] at this
     exact absurd A.2.1 (of_decide_eq_false this)
    ·exact nd
   have z := Q1 i r ⟨e1, hm, nd⟩
   have a1 : atI ((i :: t).map natV) 0 = some (natV i) := at_nat (n := 0) rfl
   simp only [a1, w_some, e2, PWa, PWc, PWd, PWe, PWl, Sl.val, Sl.put, Sl.mut, Sl.pin, wipeA, unwipe, List.replicate, Nat.reduceAdd, Nat.reduceSub, Nat.reduceLeDiff, notPl, bne, Nat.reduceBEq, Int.reduceNeg]
   exact z
  | nil =>
   rw [if_neg (by decide)]
   have nd : (rs.map (·.1)).Nodup := by
    rcases rows_dis rs with ⟨i, r, A⟩ | nd
    ·have : i ∈ (List.range rs.length).filter (agnB rs) := List.mem_filter.mpr ⟨List.mem_range.mpr (List.getElem?_eq_some_iff.mp A.1).1, by unfold agnB; rw [A.1]; exact decide_eq_true A.2.1⟩
     rw [ha] at this
     cases this
    ·exact nd
   have es : dSorted (.lst (rs.map (rowG ∘ fun r => (r, Tk.nod)))) = some (true, .lst (((srtW rs).map fun r => (r, Tk.nod)).map rowG)) := by
    have := sorted_rowsG (l := rs.map fun r => (r, Tk.nod)) (fun x hx => by
     obtain ⟨r, hr, rfl⟩ := List.mem_map.mp hx
     exact rok r hr)
    rw [sort_tag, List.map_map] at this
    exact this
   simp only [ve, z_law_due_0, List.length_map, sortedX_l, es]
   by_cases h1 : 1 <= rs.length
   ·rw [if_pos (decide_eq_true (by omega))]
    by_cases h8 : rs.length <= 8
    ·rw [if_neg (by simp; omega)]
     exact Q3 nd ⟨h1, h8⟩
    ·rw [if_pos (by simp; omega)]
     exact Q2 nd fun z => h8 z.2
   ·rw [if_neg (by simp; omega)]
    exact Q2 nd fun z => h1 z.1
end K06
namespace K06
open PySem PySem.Spec PyProof.Rows L2 NdefX GenE Sh Pu Cm Cn K02
/-- a text of at most so many signs -/
def TB (n : Nat) (x : Str) : Prop := (∀ c ∈ x.cps.toList, c < 128) /\ x.length <= n
theorem TB.mono {n m : Nat} {x : Str} (h : TB n x) (l : n <= m) : TB m x := ⟨h.1, Nat.le_trans h.2 l⟩
theorem TB.ok {n : Nat} {x : Str} (h : TB n x) (l : n <= 1000) : TOk x := h.mono l
theorem TB.app {n m : Nat} {x y : Str} (h : TB n x) (k : TB m y) : TB (n + m) (x ++ y) := by
 have e : (x ++ y).cps = x.cps ++ y.cps := rfl
 refine ⟨fun c hc => ?_, ?_⟩
 ·rw [e, Array.toList_append] at hc
  exact (List.mem_append.mp hc).elim (h.1 c) (k.1 c)
 ·show (x ++ y).cps.size <= n + m
  rw [e, Array.size_append]
  exact Nat.add_le_add h.2 k.2
theorem TB.cut {n : Nat} {x : Str} {i j : Option Int} (h : TB n x) : TB n (cutS x i j) := by
 refine ⟨fun c hc => h.1 c ?_, Nat.le_trans (cutS_length x i j) h.2⟩
 unfold cutS at hc
 rw [List.toList_toArray] at hc
 exact List.mem_of_mem_drop (List.mem_of_mem_take hc)
def wgt (ws : List Str) : Nat := (ws.map (·.length)).sum + ws.length
theorem wgt_app {a b : List Str} : wgt (a ++ b) = wgt a + wgt b := by
 unfold wgt
 rw [List.map_append, List.sum_append, List.length_append]
 omega
theorem wgt_take {a : List Str} {n : Nat} : wgt (a.take n) <= wgt a := by
 have := wgt_app (a := a.take n) (b := a.drop n)
 rw [List.take_append_drop] at this
 omega
theorem wgt_drop {a : List Str} {n : Nat} : wgt (a.drop n) <= wgt a := by
 have := wgt_app (a := a.take n) (b := a.drop n)
 rw [List.take_append_drop] at this
 omega
theorem wgt_split {x : Str} : wgt (Txt.split x spc) = x.length + 1 := by
 have e := StrLaws.join_split x spc
 rw [<- StrLaws.glued_eq_join] at e
 have s := size_glued spc (Txt.split x spc)
 rw [e] at s
 have l : spc.length = 1 := by decide +kernel
 have := (words_len (x := x) (y := spc)).1
 rw [l] at s
 unfold wgt
 omega
theorem join_mem {sep : Str} : ∀ {ys : List Str} {c : Nat}, c ∈ (Str.join sep ys).cps.toList -> c ∈ sep.cps.toList \/ ∃ y ∈ ys, c ∈ y.cps.toList
 | [], c, h => by cases h
 | [y], c, h => .inr ⟨y, .head _, h⟩
 | y :: z :: ys, c, h => by
  have h : c ∈ (y ++ sep ++ Str.join sep (z :: ys)).cps.toList := h
  have e : (y ++ sep ++ Str.join sep (z :: ys)).cps = (y.cps ++ sep.cps) ++ (Str.join sep (z :: ys)).cps := rfl
  rw [e, Array.toList_append, Array.toList_append] at h
  rcases List.mem_append.mp h with h | h
  ·rcases List.mem_append.mp h with h | h
   ·exact .inr ⟨y, .head _, h⟩
   ·exact .inl h
  ·rcases join_mem h with h | ⟨w, hw, h⟩
   ·exact .inl h
   ·exact .inr ⟨w, .tail _ hw, h⟩
theorem join_tb {ys : List Str} {n : Nat} (h : ∀ y ∈ ys, ∀ c ∈ y.cps.toList, c < 128) (w : wgt ys <= n) : TB n (Txt.join spc ys) := by
 refine ⟨fun c hc => ?_, ?_⟩
 ·have e : Txt.join spc ys = Str.join spc ys := StrLaws.glued_eq_join spc ys
  rw [e] at hc
  rcases join_mem hc with h1 | ⟨y, hy, h1⟩
  ·have : ∀ c ∈ spc.cps.toList, c < 128 := by decide +kernel
   exact this c h1
  ·exact h y hy c h1
 ·have s := size_glued spc ys
  have l : spc.length = 1 := by decide +kernel
  rw [l] at s
  unfold wgt at w
  show (Builtin.Str.glued spc ys).length <= n
  omega
theorem o_join {ys : List Str} {Q : Bool × Dv -> Prop} (w : wgt ys <= 1000) : W (dJoin (.str spc) (.lst (ys.map .str))) Q = Q (false, .str (Txt.join spc ys)) := by
 have hlim : lim = 100000 := rfl
 have l : spc.length = 1 := by decide +kernel
 unfold wgt at w
 unfold dJoin
 simp only [txtsD_map, l]
 rw [if_pos (by omega), w_some]
/-- a row's text -/
def textR (r : RowT) : Str := Txt.join spc (r.1 :: equ :: r.2.map fun p => p.2 ++ p.1)
theorem row_wgt {r : RowT} (h : RowOk r) : wgt (r.1 :: equ :: r.2.map fun p => p.2 ++ p.1) <= 60 /\ ∀ y ∈ r.1 :: equ :: r.2.map (fun p => p.2 ++ p.1), ∀ c ∈ y.cps.toList, c < 128 := by
 have tb : ∀ p ∈ r.2, TB 9 (p.2 ++ p.1) := fun p hp => by
  obtain ⟨a, b⟩ := h.2.2.2 p hp
  have t1 : TB 1 p.2 := by rcases b with e | e <;> rw [e] <;> exact ⟨by decide +kernel, by decide +kernel⟩
  have t2 : TB 8 p.1 := ⟨fun c hc => by have := (a.1 c hc).2; omega, a.2.2⟩
  exact t1.app t2
 refine ⟨?_, fun y hy => ?_⟩
 ·have l1 := h.1.2.2
  have l4 := h.2.2.1
  have le : equ.length = 1 := by decide +kernel
  have : ((r.2.map fun p => p.2 ++ p.1).map (·.length)).sum <= 9 * r.2.length := by
   have key : ∀ l : List SpT, (∀ p ∈ l, TB 9 (p.2 ++ p.1)) -> ((l.map fun p => p.2 ++ p.1).map (·.length)).sum <= 9 * l.length := fun l hl => by
    induction l with
    | nil => simp
    | cons p l ih =>
     have := ih fun q hq => hl q (.tail _ hq)
     have := (hl p (.head _)).2
     simp only [List.map_cons, List.sum_cons, List.length_cons]
     omega
   exact key r.2 tb
  unfold wgt
  simp only [List.map_cons, List.sum_cons, List.length_cons, List.length_map]
  omega
 ·rcases List.mem_cons.mp hy with rfl | hy
  ·exact (nm_tok h.1).1
  ·rcases List.mem_cons.mp hy with rfl | hy
   ·decide +kernel
   ·obtain ⟨p, hp, rfl⟩ := List.mem_map.mp hy
    exact (tb p hp).1
theorem text_tb {r : RowT} (h : RowOk r) : TB 60 (textR r) := join_tb (row_wgt h).2 (row_wgt h).1
theorem show_kind_w {r : RowT} {t : Tk} {Q : RD -> Prop} (h : RowOk r) (q : Q ((false, .str (textR r)), none)) : W (p_show_kind [.fz (.str r.1), .fz (.tup t (r.2.map specV))]) Q := by
 have hlim : lim = 100000 := rfl
 have l4 := h.2.2.1
 have ej : r.1 :: equ :: r.2.map (fun p => p.2 ++ p.1) = [r.1, equ] ++ r.2.map (fun p => p.2 ++ p.1) := rfl
 unfold p_show_kind
 simp only [ve]
 refine lc_tm _ specV r.2 (fun p => .str (p.2 ++ p.1)) (by omega) (fun p hp => ?_) ?_
 ·obtain ⟨a, b⟩ := h.2.2.2 p hp
  have l1 := a.2.2
  have l2 : p.2.length = 1 := by rcases b with e | e <;> rw [e] <;> decide +kernel
  simp only [specV, PWa, PWc, PWd, PWe, PWl, Sl.val, Sl.put, Sl.mut, Sl.pin, wipeA, unwipe, List.replicate, Nat.reduceAdd, Nat.reduceSub, Nat.reduceLeDiff, notPl, bne, Nat.reduceBEq, Int.reduceNeg, p_show_spec, z_show_spec_0, o_addS]
  omega
 ·have el : (Dv.str r.1 :: Dv.str (Str.ofString "=") :: r.2.map fun p => Dv.str (p.2 ++ p.1)) = (r.1 :: equ :: r.2.map fun p => p.2 ++ p.1).map Dv.str := by
   rw [List.map_cons, List.map_cons, List.map_map]
   rfl
  simp only [ve, o_addL]
  rw [List.length_map, el]
  refine ⟨by omega, ?_⟩
  rw [o_join (Nat.le_trans (row_wgt h).1 (by decide))]
  exact q
theorem law_text_w {r : RowT} {Q : RD -> Prop} (h : RowOk r) (q : Q ((false, .str (textR r)), none)) : W (p_law_text [.fz (rowV r)]) Q := by
 have hlim : lim = 100000 := rfl
 have l4 := h.2.2.1
 have g0 : dIx (rowV r) (.int 0) = some (false, .str r.1) := rfl
 have g1 : dIx (rowV r) (.int 1) = some (false, .tup .nod (r.2.map specV)) := rfl
 unfold p_law_text
 simp only [ve, g0, g1]
 refine lc_tm _ specV r.2 (fun p => .str (p.2 ++ p.1)) (by omega) (fun p hp => ?_) ?_
 ·obtain ⟨a, b⟩ := h.2.2.2 p hp
  have l1 := a.2.2
  have l2 : p.2.length = 1 := by rcases b with e | e <;> rw [e] <;> decide +kernel
  have s0 : dIx (specV p) (.int 0) = some (false, .str p.1) := rfl
  have s1 : dIx (specV p) (.int 1) = some (false, .str p.2) := rfl
  simp only [ve, s0, s1, o_addS]
  omega
 ·have el : (Dv.str r.1 :: Dv.str (Str.ofString "=") :: r.2.map fun p => Dv.str (p.2 ++ p.1)) = (r.1 :: equ :: r.2.map fun p => p.2 ++ p.1).map Dv.str := by
   rw [List.map_cons, List.map_cons, List.map_map]
   rfl
  simp only [ve, o_addL]
  rw [List.length_map, el]
  refine ⟨by omega, ?_⟩
  rw [o_join (Nat.le_trans (row_wgt h).1 (by decide))]
  exact q
end K06
namespace K06
open PySem PySem.Spec PyProof.Rows L2 NdefX GenE Sh Pu Cm Cn K02
theorem at_el {xs : List Dv} {c : Int} (h0 : 0 <= c) (h1 : c < xs.length) : ∃ x, x ∈ xs /\ atI xs c = some x := by
 obtain ⟨n, rfl⟩ := Int.eq_ofNat_of_zero_le h0
 have hn : n < xs.length := by omega
 exact ⟨xs[n], List.getElem_mem hn, at_nat (List.getElem?_eq_getElem hn)⟩
theorem wgt_cut {a : List Str} {lo hi : Option Int} : wgt (cutL a lo hi) <= wgt a := Nat.le_trans wgt_take wgt_drop
theorem cut_mem {a : List Str} {lo hi : Option Int} {y : Str} (h : y ∈ cutL a lo hi) : y ∈ a := List.mem_of_mem_drop (List.mem_of_mem_take h)
theorem cut_len {α : Type} {a : List α} {lo hi : Option Int} : (cutL a lo hi).length <= a.length := by
 unfold cutL
 rw [List.length_take, List.length_drop]
 omega
theorem bent_text_w {h : Int} {x : Str} {Q : RD -> Prop} (hx : TB 60 x) (q : ∀ y h', TB 150 y -> Q ((false, .str y), some (hl h'))) : W (p_law_bent_text [.io (hl h), .fz (.str x)]) Q := by
 have hlim : lim = 100000 := rfl
 have hx2 := hx.2
 have t0 : TB 69 (Str.ofString " =+-0nzA_" ++ x) := (show TB 9 (Str.ofString " =+-0nzA_") from ⟨by decide +kernel, by decide +kernel⟩).app hx
 have l9 : (Str.ofString " =+-0nzA_" ++ x).length = 9 + x.length := by
  show ((Str.ofString " =+-0nzA_").cps ++ x.cps).size = _
  rw [Array.size_append]
  rfl
 have l9' : (Str.ofString " =+-0nzA_").length = 9 := by decide +kernel
 unfold p_law_bent_text
 simp only [z_law_bent_text_8, PWa, PWc, PWd, PWe, PWl, Sl.val, Sl.put, Sl.mut, Sl.pin, wipeA, unwipe, List.replicate, Nat.reduceAdd, Nat.reduceSub, Nat.reduceLeDiff, notPl, bne, Nat.reduceBEq, Int.reduceNeg, o_addS, l9']
 refine ⟨by omega, ?_⟩
 have lenS : ∀ {y : Str}, y.length <= 1000 -> dLen (.str y) = some (false, .int y.length) := fun {y} hy => if_pos (by omega)
 have e0 := lenS (y := Str.ofString " =+-0nzA_" ++ x) (by omega)
 have e1 := lenS (y := x) (by omega)
 simp only [z_law_bent_text_7, PWa, PWc, PWd, PWe, PWl, Sl.val, Sl.put, Sl.mut, Sl.pin, wipeA, unwipe, List.replicate, Nat.reduceAdd, Nat.reduceSub, Nat.reduceLeDiff, notPl, bne, Nat.reduceBEq, Int.reduceNeg, e0]
 refine take_w (by omega) (by omega) fun c h1 c0 c1 => ?_
 obtain ⟨n, rfl⟩ := Int.eq_ofNat_of_zero_le c0
 have hn : n < (Str.ofString " =+-0nzA_" ++ x).cps.toList.length := by
  show n < (Str.ofString " =+-0nzA_" ++ x).cps.size
  have : (Str.ofString " =+-0nzA_" ++ x).cps.size = (Str.ofString " =+-0nzA_" ++ x).length := rfl
  omega
 have ea := at_nat (List.getElem?_eq_getElem hn)
 have hd := t0.1 _ (List.getElem_mem hn)
 generalize (Str.ofString " =+-0nzA_" ++ x).cps.toList[n] = sg at ea hd
 simp only [ve, o_ixS, ea, w_some]
 have tS : TB 1 ⟨#[sg]⟩ := ⟨fun c hc => by
  have : c = sg := by simpa using hc
  omega, Nat.le_refl _⟩
 refine ⟨by omega, ?_⟩
 simp only [z_law_bent_text_6, PWa, PWc, PWd, PWe, PWl, Sl.val, Sl.put, Sl.mut, Sl.pin, wipeA, unwipe, List.replicate, Nat.reduceAdd, Nat.reduceSub, Nat.reduceLeDiff, notPl, bne, Nat.reduceBEq, Int.reduceNeg, e1]
 refine take_w (by omega) (by omega) fun a h2 a0 a1 => ?_
 simp only [ve, z_law_bent_text_5, o_split]
 refine ⟨⟨by decide +kernel, by omega⟩, ?_⟩
 have wo := word_ok (y := spc) (hx.ok (by omega))
 obtain ⟨w1, w2⟩ := words_len (x := x) (y := spc)
 have wg := wgt_split (x := x)
 generalize Txt.split x spc = ws at wo w1 w2 wg ⊢
 simp only [z_law_bent_text_4, PWa, PWc, PWd, PWe, PWl, Sl.val, Sl.put, Sl.mut, Sl.pin, wipeA, unwipe, List.replicate, Nat.reduceAdd, Nat.reduceSub, Nat.reduceLeDiff, notPl, bne, Nat.reduceBEq, Int.reduceNeg, List.length_map]
 refine take_w (by omega) (by omega) fun p h3 p0 p1 => ?_
 simp only [z_law_bent_text_3, PWa, PWc, PWd, PWe, PWl, Sl.val, Sl.put, Sl.mut, Sl.pin, wipeA, unwipe, List.replicate, Nat.reduceAdd, Nat.reduceSub, Nat.reduceLeDiff, notPl, bne, Nat.reduceBEq, Int.reduceNeg]
 refine take_w (by decide) (by decide) fun m h4 m0 m1 => ?_
 simp only [ve]
 obtain ⟨D, mD, eD⟩ := at_el (xs := [Dv.str (Str.ofString ""), Dv.str (Str.ofString "="), Dv.str (Str.ofString "+n"), Dv.str (Str.ofString "-net"), Dv.str (Str.ofString "n"), Dv.str (Str.ofString "+"), Dv.str (Str.ofString "+N"), Dv.str (Str.ofString "++n"), Dv.str (Str.ofString "*n"), Dv.str (Str.ofString "add"), Dv.str (Str.ofString "abcdefghi"), Dv.str (Str.ofString "+abcdefghi")]) m0 m1
 obtain ⟨wd, rfl, tw⟩ : ∃ wd, D = .str wd /\ TB 10 wd := by
  simp only [List.mem_cons, List.not_mem_nil, or_false] at mD
  rcases mD with rfl | rfl | rfl | rfl | rfl | rfl | rfl | rfl | rfl | rfl | rfl | rfl <;> exact ⟨_, rfl, by decide +kernel, by decide +kernel⟩
 simp only [eD, w_some, PWa, PWc, PWd, PWe, PWl, Sl.val, Sl.put, Sl.mut, Sl.pin, wipeA, unwipe, List.replicate, Nat.reduceAdd, Nat.reduceSub, Nat.reduceLeDiff, notPl, bne, Nat.reduceBEq, Int.reduceNeg, z_law_bent_text_2, o_slS, o_addS]
 have A := hx.cut (i := none) (j := some a)
 have B := hx.cut (i := some a) (j := none)
 have C := hx.cut (i := some (a + 1)) (j := none)
 have AS := A.app tS
 have ASB := AS.app B
 have AC := A.app C
 have ASC := AS.app C
 have hA := A.2
 have hB := B.2
 have hC := C.2
 have hAS := AS.2
 have hS := tS.2
 refine ⟨by omega, by omega, by omega, by omega, by omega, by omega, by omega, by omega, by omega, by omega, by omega, by omega, ?_⟩
 obtain ⟨L4, e4, l4, t4⟩ : ∃ L : List Str, [Dv.str (cutS x none (some a) ++ { cps := #[sg] } ++ cutS x (some a) none), Dv.str (cutS x none (some a) ++ cutS x (some (a + 1)) none), Dv.str (cutS x none (some a) ++ { cps := #[sg] } ++ cutS x (some (a + 1)) none), Dv.str (cutS x none (some a))] = L.map Dv.str /\ L.length = 4 /\ ∀ y ∈ L, TB 150 y := ⟨[_, _, _, _], rfl, rfl, fun y hy => by
  simp only [List.mem_cons, List.not_mem_nil, or_false] at hy
  rcases hy with rfl | rfl | rfl | rfl
  ·exact ASB.mono (by decide)
  ·exact AC.mono (by decide)
  ·exact ASC.mono (by decide)
  ·exact A.mono (by decide)⟩
 rw [e4]
 have ch : ∀ {l : List Str}, (∀ y ∈ l, y ∈ ws \/ y = wd) -> ∀ y ∈ l, ∀ c ∈ y.cps.toList, c < 128 := fun {l} hl y hy => by
  rcases hl y hy with h | rfl
  ·exact (wo y h).1
  ·exact tw.1
 have sub : ∀ {lo hi : Option Int}, ∀ y ∈ cutL ws lo hi, y ∈ ws \/ y = wd := fun {lo hi} y hy => .inl (cut_mem hy)
 have wd1 : wgt [wd] <= 11 := by
  have := tw.2
  unfold wgt
  simp only [List.map_cons, List.map_nil, List.sum_cons, List.sum_nil, List.length_cons, List.length_nil]
  omega
 have cl : ∀ {lo hi : Option Int}, (cutL ws lo hi).length <= 62 := fun {lo hi} => Nat.le_trans cut_len (by omega)
 have cg : ∀ {lo hi : Option Int}, wgt (cutL ws lo hi) <= 61 := fun {lo hi} => Nat.le_trans wgt_cut (by omega)
 have j3 : ∀ {l m : List Str} {QD : Bool × Dv -> Prop}, wgt (l ++ [wd] ++ m) <= 1000 -> W (dJoin (.str (Str.ofString " ")) (.lst (l.map .str ++ [.str wd] ++ m.map .str))) QD = QD (false, .str (Txt.join spc (l ++ [wd] ++ m))) := fun {l m QD} hw => by
  have : l.map Dv.str ++ [.str wd] ++ m.map Dv.str = (l ++ [wd] ++ m).map Dv.str := by simp
  rw [this]
  exact o_join hw
 have j2 : ∀ {l m : List Str} {QD : Bool × Dv -> Prop}, wgt (l ++ m) <= 1000 -> W (dJoin (.str (Str.ofString " ")) (.lst (l.map .str ++ m.map .str))) QD = QD (false, .str (Txt.join spc (l ++ m))) := fun {l m QD} hw => by
  rw [<- List.map_append]
  exact o_join hw
 have w3 : ∀ {i j i' j' : Option Int}, wgt (cutL ws i j ++ [wd] ++ cutL ws i' j') <= 140 := fun {i j i' j'} => by
  have a1 := cg (lo := i) (hi := j)
  have a2 := cg (lo := i') (hi := j')
  rw [wgt_app, wgt_app]
  omega
 have w2' : ∀ {i j i' j' : Option Int}, wgt (cutL ws i j ++ cutL ws i' j') <= 140 := fun {i j i' j'} => by
  have a1 := cg (lo := i) (hi := j)
  have a2 := cg (lo := i') (hi := j')
  rw [wgt_app]
  omega
 have m3 : ∀ {i j i' j' : Option Int}, TB 150 (Txt.join spc (cutL ws i j ++ [wd] ++ cutL ws i' j')) := fun {i j i' j'} => (join_tb (ch fun y hy => by
  rcases List.mem_append.mp hy with hy | hy
  ·rcases List.mem_append.mp hy with hy | hy
   ·exact sub y hy
   ·exact .inr (List.mem_singleton.mp hy)
  ·exact sub y hy) w3).mono (by decide)
 have m2 : ∀ {i j i' j' : Option Int}, TB 150 (Txt.join spc (cutL ws i j ++ cutL ws i' j')) := fun {i j i' j'} => (join_tb (ch fun y hy => (List.mem_append.mp hy).elim (sub y) (sub y)) w2').mono (by decide)
 have m1' : ∀ {i j : Option Int}, TB 150 (Txt.join spc (cutL ws i j)) := fun {i j} => (join_tb (ch sub) (Nat.le_trans cg (by decide : 61 <= 140))).mono (by decide)
 have c1' := cl (lo := none) (hi := some p)
 have c2' := cl (lo := some (p + 1)) (hi := none)
 have c3' := cl (lo := some p) (hi := none)
 simp only [z_law_bent_text_1, PWa, PWc, PWd, PWe, PWl, Sl.val, Sl.put, Sl.mut, Sl.pin, wipeA, unwipe, List.replicate, Nat.reduceAdd, Nat.reduceSub, Nat.reduceLeDiff, notPl, bne, Nat.reduceBEq, Int.reduceNeg, cutL_map, o_addL, List.length_map, List.length_append, List.length_cons, List.length_nil]
 refine ⟨by omega, by omega, ?_⟩
 rw [j3 (Nat.le_trans w3 (by decide))]
 refine ⟨by omega, ?_⟩
 rw [j2 (Nat.le_trans w2' (by decide))]
 refine ⟨by omega, ?_⟩
 simp only [z_law_bent_text_0, PWa, PWc, PWd, PWe, PWl, Sl.val, Sl.put, Sl.mut, Sl.pin, wipeA, unwipe, List.replicate, Nat.reduceAdd, Nat.reduceSub, Nat.reduceLeDiff, notPl, bne, Nat.reduceBEq, Int.reduceNeg, cutL_map, o_addL, o_addS, List.length_map, List.length_append, List.length_cons, List.length_nil]
 have k1 : (Str.ofString " +n -n +n -n").length = 12 := by decide +kernel
 have k2 : (Str.ofString " +nn").length = 4 := by decide +kernel
 have T1 : TB 150 (x ++ Str.ofString " +n -n +n -n") := (hx.app (show TB 12 (Str.ofString " +n -n +n -n") from ⟨by decide +kernel, by decide +kernel⟩)).mono (by decide)
 have T2 : TB 150 (x ++ Str.ofString " +nn") := (hx.app (show TB 4 (Str.ofString " +nn") from ⟨by decide +kernel, by decide +kernel⟩)).mono (by decide)
 have T3 : TB 150 (Str.ofString "") := ⟨by decide +kernel, by decide +kernel⟩
 have j1 : ∀ {l : List Str} {QD : Bool × Dv -> Prop}, wgt l <= 1000 -> W (dJoin (.str (Str.ofString " ")) (.lst (l.map .str))) QD = QD (false, .str (Txt.join spc l)) := fun {l QD} hw => o_join hw
 refine ⟨by omega, by omega, ?_⟩
 rw [j3 (Nat.le_trans w3 (by decide)), j1 (Nat.le_trans cg (by decide))]
 refine ⟨by omega, by omega, by omega, by omega, ?_⟩
 refine take_w (by decide) (by decide) fun z h5 z0 z1 => ?_
 have M3a := m3 (i := none) (j := some p) (i' := some (p + 1)) (j' := none)
 have M3b := m3 (i := none) (j := some p) (i' := some p) (j' := none)
 have M2 := m2 (i := none) (j := some p) (i' := some (p + 1)) (j' := none)
 have M1 := m1' (i := none) (j := some 2)
 generalize Txt.join spc (cutL ws none (some p) ++ [wd] ++ cutL ws (some (p + 1)) none) = s1 at M3a ⊢
 generalize Txt.join spc (cutL ws none (some p) ++ [wd] ++ cutL ws (some p) none) = s2 at M3b ⊢
 generalize Txt.join spc (cutL ws none (some p) ++ cutL ws (some (p + 1)) none) = s3 at M2 ⊢
 generalize Txt.join spc (cutL ws none (some 2)) = s4 at M1 ⊢
 have eL : L4.map Dv.str ++ [Dv.str s1, Dv.str s3] ++ [Dv.str s2, Dv.str s4, Dv.str (x ++ Str.ofString " +n -n +n -n")] ++ [Dv.str (x ++ Str.ofString " +nn"), Dv.str (Str.ofString "")] = (L4 ++ [s1, s3] ++ [s2, s4, x ++ Str.ofString " +n -n +n -n"] ++ [x ++ Str.ofString " +nn", Str.ofString ""]).map Dv.str := by simp
 rw [eL]
 have tL : ∀ y ∈ L4 ++ [s1, s3] ++ [s2, s4, x ++ Str.ofString " +n -n +n -n"] ++ [x ++ Str.ofString " +nn", Str.ofString ""], TB 150 y := fun y hy => by
  rcases List.mem_append.mp hy with hy | hy
  ·rcases List.mem_append.mp hy with hy | hy
   ·rcases List.mem_append.mp hy with hy | hy
    ·exact t4 y hy
    ·simp only [List.mem_cons, List.not_mem_nil, or_false] at hy
     rcases hy with rfl | rfl <;> assumption
   ·simp only [List.mem_cons, List.not_mem_nil, or_false] at hy
    rcases hy with rfl | rfl | rfl <;> assumption
  ·simp only [List.mem_cons, List.not_mem_nil, or_false] at hy
   rcases hy with rfl | rfl <;> assumption
 have lL : (L4 ++ [s1, s3] ++ [s2, s4, x ++ Str.ofString " +n -n +n -n"] ++ [x ++ Str.ofString " +nn", Str.ofString ""]).length = 11 := by
  simp only [List.length_append, List.length_cons, List.length_nil]
  omega
 generalize L4 ++ [s1, s3] ++ [s2, s4, x ++ Str.ofString " +n -n +n -n"] ++ [x ++ Str.ofString " +nn", Str.ofString ""] = L at tL lL
 obtain ⟨D, mD, eD⟩ := at_el (xs := L.map Dv.str) z0 (by rw [List.length_map]; omega)
 obtain ⟨y, hy, rfl⟩ := List.mem_map.mp mD
 simp only [ve, eD, w_some]
 exact q y h5 (tL y hy)
theorem strs_of : ∀ {acc : List Dv}, (∀ y ∈ acc, ∃ w, TOk w /\ y = .str w) -> ∃ zs : List Str, acc = zs.map .str /\ ∀ z ∈ zs, TOk z
 | [], _ => ⟨[], rfl, by simp⟩
 | y :: acc, h => by
  obtain ⟨w, tw, rfl⟩ := h y (.head _)
  obtain ⟨zs, rfl, hz⟩ := strs_of fun z hz => h z (.tail _ hz)
  exact ⟨w :: zs, rfl, fun z hz' => by
   rcases List.mem_cons.mp hz' with rfl | h'
   ·exact tw
   ·exact hz z h'⟩
/-- texts, bent -/
theorem bent_w {h : Int} {xs : List Str} {Q : RD -> Prop} (hx : ∀ x ∈ xs, TB 60 x) (h1 : 1 <= xs.length) (h4 : xs.length <= 4) (q : ∀ (b : Bool) (ys : List Str) h', (∀ y ∈ ys, TOk y) -> ys.length <= 60 -> Q ((b, .lst (ys.map .str)), some (hl h'))) : W (p_law_bent [.io (hl h), .bw (.lst (xs.map .str))]) Q := by
 have hlim : lim = 100000 := rfl
 unfold p_law_bent
 simp only [z_law_bent_6, PWa, PWc, PWd, PWe, PWl, Sl.val, Sl.put, Sl.mut, Sl.pin, wipeA, unwipe, List.replicate, Nat.reduceAdd, Nat.reduceSub, Nat.reduceLeDiff, notPl, bne, Nat.reduceBEq, Int.reduceNeg]
 refine take_w (by decide) (by decide) fun way h2 v0 v1 => ?_
 simp only [z_law_bent_5, PWa, PWc, PWd, PWe, PWl, Sl.val, Sl.put, Sl.mut, Sl.pin, wipeA, unwipe, List.replicate, Nat.reduceAdd, Nat.reduceSub, Nat.reduceLeDiff, notPl, bne, Nat.reduceBEq, Int.reduceNeg, List.length_map]
 refine take_w (by omega) (by omega) fun a h3 a0 a1 => ?_
 obtain ⟨D, mD, eD⟩ := at_el (xs := xs.map Dv.str) a0 (by rw [List.length_map]; exact a1)
 obtain ⟨x, hxm, rfl⟩ := List.mem_map.mp mD
 have xok : ∀ y ∈ xs, TOk y := fun y hy => (hx y hy).ok (by decide)
 have cok : ∀ {lo hi : Option Int}, ∀ y ∈ cutL xs lo hi, TOk y := fun {lo hi} y hy => xok y (cut_mem hy)
 have cl : ∀ {lo hi : Option Int}, (cutL xs lo hi).length <= 4 := fun {lo hi} => Nat.le_trans cut_len h4
 have c1 := cl (lo := none) (hi := some a)
 have c2 := cl (lo := some (a + 1)) (hi := none)
 have c3 := cl (lo := some a) (hi := none)
 simp only [z_law_bent_4, PWa, PWc, PWd, PWe, PWl, Sl.val, Sl.put, Sl.mut, Sl.pin, wipeA, unwipe, List.replicate, Nat.reduceAdd, Nat.reduceSub, Nat.reduceLeDiff, notPl, bne, Nat.reduceBEq, Int.reduceNeg, eD, w_some, cutL_map, o_addL, List.length_map, List.length_append, List.length_cons, List.length_nil]
 split
 ·refine bent_text_w (hx x hxm) fun y h4 ty => ?_
  simp only [ve]
  refine ⟨by omega, by omega, ?_⟩
  have e : (cutL xs none (some a)).map Dv.str ++ [Dv.str y] ++ (cutL xs (some (a + 1)) none).map Dv.str = (cutL xs none (some a) ++ [y] ++ cutL xs (some (a + 1)) none).map Dv.str := by simp
  rw [e]
  refine q _ _ _ (fun w hw => ?_) (by simp only [List.length_append, List.length_cons, List.length_nil]; omega)
  rcases List.mem_append.mp hw with hw | hw
  ·rcases List.mem_append.mp hw with hw | hw
   ·exact cok w hw
   ·rw [List.mem_singleton.mp hw]
    exact ty.ok (by decide)
  ·exact cok w hw
 ·simp only [z_law_bent_3, PWa, PWc, PWd, PWe, PWl, Sl.val, Sl.put, Sl.mut, Sl.pin, wipeA, unwipe, List.replicate, Nat.reduceAdd, Nat.reduceSub, Nat.reduceLeDiff, notPl, bne, Nat.reduceBEq, Int.reduceNeg, eqI]
  split
  ·have sx := (hx x hxm).2
   have wl := (words_len (x := x) (y := spc)).1
   have wo := word_ok (y := spc) ((hx x hxm).ok (by decide))
   have kk : (Str.ofString " +n").length = 3 := by decide +kernel
   have kk2 : (Str.ofString " = -n").length = 5 := by decide +kernel
   simp only [z_law_bent_0, PWa, PWc, PWd, PWe, PWl, Sl.val, Sl.put, Sl.mut, Sl.pin, wipeA, unwipe, List.replicate, Nat.reduceAdd, Nat.reduceSub, Nat.reduceLeDiff, notPl, bne, Nat.reduceBEq, Int.reduceNeg, eD, w_some, o_addS, o_split, kk, kk2]
   obtain ⟨w0, hw0⟩ : ∃ w0, (Txt.split x spc)[0]? = some w0 := ⟨_, List.getElem?_eq_getElem (by omega)⟩
   have ew : atI ((Txt.split x (Str.ofString " ")).map Dv.str) 0 = some (.str w0) := at_nat (n := 0) (by rw [List.getElem?_map, hw0]; rfl)
   have tw0 := wo w0 (List.mem_of_getElem? hw0)
   have tw2 := tw0.2
   simp only [ew, w_some, o_addS, kk2]
   refine ⟨by omega, ⟨by decide +kernel, by omega⟩, by omega, ?_⟩
   refine take_w (by decide) (by decide) fun c h4 k0 k1 => ?_
   have T0 : TB 60 x := hx x hxm
   have T1 : TOk (x ++ Str.ofString " +n") := (T0.app (show TB 3 (Str.ofString " +n") from ⟨by decide +kernel, by decide +kernel⟩)).ok (by decide)
   have w60 : w0.length <= 60 := by
    have g := wgt_split (x := x)
    have m := List.mem_of_getElem? hw0
    obtain ⟨l1, l2, e⟩ := List.append_of_mem m
    rw [e, wgt_app] at g
    have : wgt (w0 :: l2) = w0.length + 1 + wgt l2 := by
     unfold wgt
     simp only [List.map_cons, List.sum_cons, List.length_cons]
     omega
    omega
   have T2 : TOk (w0 ++ Str.ofString " = -n") := (TB.app (n := 60) ⟨tw0.1, w60⟩ (show TB 5 (Str.ofString " = -n") from ⟨by decide +kernel, by decide +kernel⟩)).ok (by decide)
   obtain ⟨D, mD, eD'⟩ := at_el (xs := [Dv.str x, Dv.str (x ++ Str.ofString " +n"), Dv.str (w0 ++ Str.ofString " = -n")]) k0 k1
   obtain ⟨y, rfl, ty⟩ : ∃ y, D = .str y /\ TOk y := by
    simp only [List.mem_cons, List.not_mem_nil, or_false] at mD
    rcases mD with rfl | rfl | rfl
    ·exact ⟨_, rfl, T0.ok (by decide)⟩
    ·exact ⟨_, rfl, T1⟩
    ·exact ⟨_, rfl, T2⟩
   simp only [ve, eD', w_some, List.length_map]
   refine take_w (by omega) (by omega) fun b h5 b0 b1 => ?_
   have c4 := cl (lo := none) (hi := some b)
   simp only [ve, cutL_map, o_addL, List.length_map, List.length_append, List.length_cons, List.length_nil]
   refine ⟨by omega, by omega, ?_⟩
   have e : (cutL xs none (some b)).map Dv.str ++ [Dv.str y] ++ xs.map Dv.str = (cutL xs none (some b) ++ [y] ++ xs).map Dv.str := by simp
   rw [e]
   refine q _ _ _ (fun w hw => ?_) (by simp only [List.length_append, List.length_cons, List.length_nil]; omega)
   rcases List.mem_append.mp hw with hw | hw
   ·rcases List.mem_append.mp hw with hw | hw
    ·exact cok w hw
    ·rw [List.mem_singleton.mp hw]
     exact ty
   ·exact xok w hw
  ·simp only [z_law_bent_2, PWa, PWc, PWd, PWe, PWl, Sl.val, Sl.put, Sl.mut, Sl.pin, wipeA, unwipe, List.replicate, Nat.reduceAdd, Nat.reduceSub, Nat.reduceLeDiff, notPl, bne, Nat.reduceBEq, Int.reduceNeg, eqI]
   split
   ·simp only [z_law_bent_1, PWa, PWc, PWd, PWe, PWl, Sl.val, Sl.put, Sl.mut, Sl.pin, wipeA, unwipe, List.replicate, Nat.reduceAdd, Nat.reduceSub, Nat.reduceLeDiff, notPl, bne, Nat.reduceBEq, Int.reduceNeg]
    refine take_w (by decide) (by decide) fun c h4 k0 k1 => ?_
    obtain ⟨n, hn, en⟩ : ∃ n : Int, (n = 8 \/ n = 9) /\ atI [Dv.int 8, Dv.int 9] c = some (.int n) := by
     have hc : c = 0 \/ c = 1 := by omega
     rcases hc with rfl | rfl
     ·exact ⟨8, .inl rfl, at_nat (n := 0) rfl⟩
     ·exact ⟨9, .inr rfl, at_nat (n := 1) rfl⟩
    have TA : TB 8 (Str.ofString "abcdefgh") := ⟨by decide +kernel, by decide +kernel⟩
    have ly := TA.2
    have TY := TA.cut (i := none) (j := some (n - (xs.length : Int)))
    have lz : (Str.ofString "zz").length = 2 := by decide +kernel
    have ln : (Str.ofString " = +n").length = 5 := by decide +kernel
    simp only [ve, en, w_some, o_sub, List.length_map, o_slS]
    refine ⟨by omega, ?_⟩
    generalize cutS (Str.ofString "abcdefgh") none (some (n - (xs.length : Int))) = y at TY ⊢
    have ly2 := TY.2
    unfold signsD
    have hl : y.cps.toList.length <= 8 := ly2
    refine lc_tm _ (fun c => Dv.str ⟨#[c]⟩) y.cps.toList (fun c => Dv.str (Str.ofString "zz" ++ ⟨#[c]⟩ ++ Str.ofString " = +n")) (by omega) (fun c hc => ?_) ?_
    ·have l1 : (Str.ofString "zz" ++ (⟨#[c]⟩ : Str)).length = 3 := rfl
     have l0 : (⟨#[c]⟩ : Str).length = 1 := rfl
     simp only [ve, o_addS, lz, ln, l1, l0]
     omega
    have eM : (y.cps.toList.map fun c => Dv.str (Str.ofString "zz" ++ ⟨#[c]⟩ ++ Str.ofString " = +n")) = (y.cps.toList.map fun c => Str.ofString "zz" ++ ⟨#[c]⟩ ++ Str.ofString " = +n").map Dv.str := by rw [List.map_map]; rfl
    have tM : ∀ z ∈ y.cps.toList.map fun c => Str.ofString "zz" ++ ⟨#[c]⟩ ++ Str.ofString " = +n", TOk z := fun z hz => by
     obtain ⟨c, hc, rfl⟩ := List.mem_map.mp hz
     have t1 : TB 1 ⟨#[c]⟩ := ⟨fun d hd => by
      have : d = c := by simpa using hd
      rw [this]
      exact TY.1 c hc, Nat.le_refl _⟩
     exact (((show TB 2 (Str.ofString "zz") from ⟨by decide +kernel, by decide +kernel⟩).app t1).app (show TB 5 (Str.ofString " = +n") from ⟨by decide +kernel, by decide +kernel⟩)).ok (by decide)
    have lM : (y.cps.toList.map fun c => Str.ofString "zz" ++ ⟨#[c]⟩ ++ Str.ofString " = +n").length <= 8 := by rw [List.length_map]; exact hl
    rw [eM]
    generalize (y.cps.toList.map fun c => Str.ofString "zz" ++ ⟨#[c]⟩ ++ Str.ofString " = +n") = zs at tM lM
    simp only [ve]
    refine take_w (by decide) (by decide) fun w h5 w0 w1 => ?_
    simp only [ve, eqI, o_addL, List.length_map]
    split
    ·refine ⟨by omega, ?_⟩
     rw [<- List.map_append]
     exact q _ _ _ (fun z hz => (List.mem_append.mp hz).elim (xok z) (tM z)) (by rw [List.length_append]; omega)
    ·refine ⟨by omega, ?_⟩
     rw [<- List.map_append]
     exact q _ _ _ (fun z hz => (List.mem_append.mp hz).elim (tM z) (xok z)) (by rw [List.length_append]; omega)
   ·simp only [o_addL, List.length_map]
    refine ⟨by omega, ?_⟩
    refine lc_st (ds := xs.map Dv.str) (fun h : Int => [some (.io (hl h)), some (.bw (.lst (xs.map .str))), some (.fz (.int way)), some (.fz (.int a)), none, none, none, none]) (fun y => ∃ w, TOk w /\ y = .str w) (i := h3) (by rw [List.length_map]; omega) (fun d h hd => ?_) fun acc h' hal hacc => ?_
    ·obtain ⟨w, hw, rfl⟩ := List.mem_map.mp hd
     simp only [ve]
     refine bent_text_w (hx w hw) fun y h4 ty => ?_
     simp only [ve]
     exact ⟨⟨y, ty.ok (by decide), rfl⟩, h4, rfl⟩
    ·simp only [ve]
     obtain ⟨zs, rfl, hz⟩ := strs_of hacc
     rw [List.length_map, List.length_map] at hal
     refine take_w (by decide) (by decide) fun w h5 w0 w1 => ?_
     obtain ⟨D, mD, eD'⟩ := at_el (xs := [Dv.lst [], Dv.lst (cutL (xs.map Dv.str) (some a) none), Dv.lst (xs.map Dv.str ++ xs.map Dv.str), Dv.lst (zs.map Dv.str)]) w0 w1
     obtain ⟨ys, rfl, ty, ly⟩ : ∃ ys : List Str, D = .lst (ys.map .str) /\ (∀ y ∈ ys, TOk y) /\ ys.length <= 60 := by
      simp only [List.mem_cons, List.not_mem_nil, or_false] at mD
      rcases mD with rfl | rfl | rfl | rfl
      ·exact ⟨[], rfl, by simp, by simp⟩
      ·exact ⟨cutL xs (some a) none, by rw [cutL_map], cok, by omega⟩
      ·exact ⟨xs ++ xs, by rw [List.map_append], fun z hz => (List.mem_append.mp hz).elim (xok z) (xok z), by rw [List.length_append]; omega⟩
      ·exact ⟨zs, rfl, hz, by omega⟩
     simp only [ve, eD', w_some]
     exact q _ _ _ ty ly
end K06
namespace K06
open PySem PySem.Spec PyProof.Rows L2 NdefX GenE Sh Pu Cm Cn K02
theorem mapO_self {f : Dv -> Option PyData} (hf : ∀ x y, f x = some y -> PyData.eqv y y = true) : ∀ {xs : List Dv} {ys : List PyData}, mapO f xs = some ys -> PyData.eqvAll ys ys = true
 | [], ys, h => by
  simp only [mapO, Option.some.injEq] at h
  subst h
  rfl
 | x :: xs, ys, h => by
  unfold mapO at h
  split at h
  ·rename_i y ys' h1 h2
   cases h
   rw [PyData.eqvAll, hf x y h1, mapO_self hf h2]
   rfl
  ·cases h
theorem dd_self : ∀ (k : Nat) (d : Dv) (D : PyData), toDD k d = some D -> PyData.eqv D D = true := by
 intro k
 induction k with
 | zero => intro d D h; simp only [toDD, reduceCtorEq] at h
 | succ k ih =>
  intro d D h
  cases d <;> simp only [toDD, reduceCtorEq, Option.some.injEq] at h
  ·subst h; rfl
  ·subst h; simp [PyData.eqv]
  ·subst h; simp [PyData.eqv]
  ·split at h
   ·cases h; simp [PyData.eqv]
   ·cases h
  all_goals
   obtain ⟨ys, h1, rfl⟩ := Option.map_eq_some_iff.mp h
   rw [PyData.eqv]
   exact mapO_self ih h1
theorem ne_dd {d e : Dv} {D : PyData} (h : toDD 20 d = some D) (k : toDD 20 e = some D) : dNe d e = some (false, .bl false) := by
 apply W.eq
 rw [o_ne, h, k, w_some, w_some, dd_self 20 d D h]
 rfl
theorem bad_one {xs : List Str} {i j : Nat} {x y : Str} (h1 : xs[i]? = some x) (h2 : parse x = none) (h3 : ∀ y ∈ xs.take i, parse y ≠ none) (k1 : xs[j]? = some y) (k2 : parse y = none) (k3 : ∀ y ∈ xs.take j, parse y ≠ none) : i = j := by
 rcases Nat.lt_trichotomy i j with h | h | h
 ·exact absurd h2 (k3 x (List.mem_of_getElem? (i := i) (by rw [List.getElem?_take, if_pos h]; exact h1)))
 ·exact h
 ·exact absurd k2 (h3 y (List.mem_of_getElem? (i := j) (by rw [List.getElem?_take, if_pos h]; exact k1)))
theorem bad_rows {xs : List Str} {i : Nat} {x : Str} {rs : List RowT} (h1 : xs[i]? = some x) (h2 : parse x = none) (h : xs.map parse = rs.map some) : False := by
 have : (xs.map parse)[i]? = some none := by rw [List.getElem?_map, h1, Option.map_some, h2]
 rw [h, List.getElem?_map] at this
 obtain ⟨r, _, e⟩ := Option.map_eq_some_iff.mp this
 cases e
theorem rows_one {xs : List Str} {rs rs' : List RowT} (h : xs.map parse = rs.map some) (h' : xs.map parse = rs'.map some) : rs = rs' := by
 have e : rs.map some = rs'.map some := by rw [<- h, h']
 have := congrArg (List.filterMap id) e
 simpa [List.filterMap_map] using this
theorem agn_nd {rs : List RowT} {i : Nat} {r : RowT} (A : Agn rs i r) (nd : (rs.map (·.1)).Nodup) : False := by
 have hi := (List.getElem?_eq_some_iff.mp A.1).1
 have e : rs = rs.take i ++ r :: rs.drop (i + 1) := by
  conv => lhs; rw [<- List.take_append_drop i rs]
  rw [List.drop_eq_getElem_cons hi, (List.getElem?_eq_some_iff.mp A.1).2]
 rw [e, List.map_append] at nd
 exact (List.nodup_append.mp nd).2.2 r.1 A.2.1 r.1 (.head _) rfl
theorem agn_one {rs : List RowT} {i j : Nat} {r s : RowT} (A : Agn rs i r) (B : Agn rs j s) : r = s := by
 have key : ∀ {i j : Nat} {r s : RowT}, Agn rs i r -> Agn rs j s -> ¬ i < j := fun {i j r s} A B h => by
  refine agn_nd (rs := rs.take j) (i := i) (r := r) ⟨?_, ?_, ?_⟩ B.2.2
  ·rw [List.getElem?_take, if_pos h]; exact A.1
  ·rw [List.take_take, Nat.min_eq_left (by omega)]; exact A.2.1
  ·rw [List.take_take, Nat.min_eq_left (by omega)]; exact A.2.2
 have : i = j := by
  rcases Nat.lt_trichotomy i j with h | h | h
  ·exact absurd h (key A B)
  ·exact h
  ·exact absurd h (key B A)
 subst this
 have := A.1.symm.trans B.1
 exact Option.some.inj this
theorem rg9 : rngD 0 (Int.toNat 9) = (List.range 9).map natV := rfl
def whV : Option Nat -> Dv
 | some n => .int (n : Int)
 | none => .non
def whB : Option Nat -> List Bool
 | some n => ksB n
 | none => []
theorem last_w {d F F' f : Dv} {DF df : PyData} {w : Option Nat} {k : Int} {xs : List Str} {s2 s3 s4 s5 s6 o10 : Option Sl} {QS : AOut × AEnv -> Prop} (hx : ∀ x ∈ xs, TOk x) (hl : xs.length <= 60) (c10 : coldB o10 = true) (hF : toDD 19 F = some DF) (hF' : toDD 19 F' = some DF) (hf : toDD 19 f = some df) (hk : f = .non \/ (∃ i : Nat, f = natV i) \/ ∃ x, f = .str x)
  (q : ∀ p10, coldB p10 = true -> QS (.nx, [some (.fz d), some (.fz (.int k)), s2, s3, s4, s5, s6, some (.fz (.lst (xs.map .str))), some (.fz (.tup .trk [F, .lst ((whB w).map .bl), f])), some (.own (.lst (xs.map .str))), p10, none, some (.fz F'), some (.fz (whV w)), some (.fz f)])) :
  W (z_law_1 [some (.fz d), some (.fz (.int k)), s2, s3, s4, s5, s6, some (.fz (.lst (xs.map .str))), some (.fz (.tup .trk [F, .lst ((whB w).map .bl), f])), some (.own (.lst (xs.map .str))), o10, none, some (.fz F'), some (.fz (whV w)), some (.fz f)]) QS := by
 have hlim : lim = 100000 := rfl
 have eB : toDD 19 (.lst ((whB w).map .bl)) = some (.list ((whB w).map PyData.bool)) := by
  show (mapO (toDD 18) ((whB w).map Dv.bl)).map PyData.list = _
  rw [mapO_map (g := toDD 18) (f := Dv.bl) (k := PyData.bool) fun x _ => rfl]
  rfl
 have e1 : toDD 20 (.tup .trk [F, .lst ((whB w).map .bl), f]) = some (.tuple [DF, .list ((whB w).map PyData.bool), df]) := by
  show (mapO (toDD 19) [F, .lst ((whB w).map .bl), f]).map PyData.tuple = _
  simp only [mapO, hF, eB, hf]
  rfl
 have e2 : toDD 20 (.tup .trk [F', .lst ((whB w).map .bl), f]) = some (.tuple [DF, .list ((whB w).map PyData.bool), df]) := by
  show (mapO (toDD 19) [F', .lst ((whB w).map .bl), f]).map PyData.tuple = _
  simp only [mapO, hF', eB, hf]
  rfl
 have n1 := ne_dd e1 e2
 have n2 : dNe (.lst (xs.map .str)) (.lst (xs.map .str)) = some (false, .bl false) := by
  have : toDD 20 (.lst (xs.map .str)) = some (.list (xs.map PyData.str)) := by
   show (mapO (toDD 19) (xs.map Dv.str)).map PyData.list = _
   rw [mapO_map (g := toDD 19) (f := Dv.str) (k := PyData.str) fun y hy => str_dd (hx y hy)]
   rfl
  exact ne_dd this this
 have i2 : dIx (.tup .trk [F, .lst ((whB w).map .bl), f]) (.int 2) = some (false, f) := rfl
 have fb : ∀ {QB : Bool -> Prop}, W (tyD f) (fun t => W (kitB t "bool") QB) = QB false := fun {QB} => by
  rcases hk with rfl | ⟨i, rfl⟩ | ⟨x, rfl⟩
  ·simp only [tyD, w_some, k_nb]
  ·simp only [natV, tyD, w_some, k_ib]
  ·simp only [tyD, w_some, k_sb]
 cases w with
 | none =>
  have i0 : dIsNot .non .non = some (false, .bl false) := rfl
  have q := q (some (.fz (.lst []))) rfl
  simp only [whV, whB, List.map_nil] at n1 i2 q ⊢
  have fb2 : ∀ {QB : Bool -> Prop}, W (atI [F, Dv.lst [], f] 2) (fun v => W (tyD v) fun t => W (kitB t "bool") QB) = QB false := fun {QB} => by
   have : atI [F, Dv.lst [], f] 2 = some f := at_nat (n := 2) rfl
   rw [this, w_some]
   exact fb
  simp only [z_law_1, PWa, PWc, PWd, PWe, PWl, Sl.val, Sl.put, Sl.mut, Sl.pin, wipeA, unwipe, List.replicate, Nat.reduceAdd, Nat.reduceSub, Nat.reduceLeDiff, notPl, bne, Nat.reduceBEq, Int.reduceNeg, i0, c10, n1, n2, fb2]
  exact q
 | some n =>
  have i0 : dIsNot (.int (n : Int)) .non = some (false, .bl true) := rfl
  have q := q (some (.fz (.lst ((ksB n).map .bl)))) rfl
  have eK : ((List.range 9).map fun k => Dv.bl (decide (k = n))) ++ [Dv.bl true] = (ksB n).map .bl := by
   unfold ksB
   rw [List.map_append, List.map_map]
   rfl
  simp only [whV, whB] at n1 i2 q ⊢
  have fb2 : ∀ {QB : Bool -> Prop}, W (atI [F, Dv.lst ((ksB n).map .bl), f] 2) (fun v => W (tyD v) fun t => W (kitB t "bool") QB) = QB false := fun {QB} => by
   have : atI [F, Dv.lst ((ksB n).map .bl), f] 2 = some f := at_nat (n := 2) rfl
   rw [this, w_some]
   exact fb
  simp only [z_law_1, PWa, PWc, PWd, PWe, PWl, Sl.val, Sl.put, Sl.mut, Sl.pin, wipeA, unwipe, List.replicate, Nat.reduceAdd, Nat.reduceSub, Nat.reduceLeDiff, notPl, bne, Nat.reduceBEq, Int.reduceNeg, i0]
  refine ⟨⟨by decide, by decide⟩, ?_⟩
  rw [rg9]
  refine lc_tm _ natV (List.range 9) (fun k => .bl (decide (k = n))) (by decide) (fun k _ => ?_) ?_
  ·have : ((k : Int) == (n : Int)) = decide (k = n) := by
    rw [Bool.eq_iff_iff, beq_iff_eq, decide_eq_true_eq]
    omega
   simp only [natV, PWa, PWc, PWd, PWe, PWl, Sl.val, Sl.put, Sl.mut, Sl.pin, wipeA, unwipe, List.replicate, Nat.reduceAdd, Nat.reduceSub, Nat.reduceLeDiff, notPl, bne, Nat.reduceBEq, Int.reduceNeg, eqI, this]
  ·simp only [ve, o_addL, c10, List.length_map, List.length_range, eK, n1, n2, fb2]
   exact ⟨by omega, q⟩
theorem some_w {d : Dv} {k : Int} {xs : List Str} {s2 s3 s4 s5 s6 : Option Sl} {o8 o9 o10 o12 o13 o14 : Option Sl} {QS : AOut × AEnv -> Prop} (hx : ∀ x ∈ xs, TOk x) (hl : xs.length <= 60) (c8 : coldB o8 = true) (c9 : coldB o9 = true) (c10 : coldB o10 = true) (c12 : coldB o12 = true) (c13 : coldB o13 = true) (c14 : coldB o14 = true)
  (q : ∀ p8 p9 p10 p12 p13 p14, coldB p8 = true -> coldB p9 = true -> coldB p10 = true -> coldB p12 = true -> coldB p13 = true -> coldB p14 = true -> QS (.nx, [some (.fz d), some (.fz (.int k)), s2, s3, s4, s5, s6, some (.fz (.lst (xs.map .str))), p8, p9, p10, none, p12, p13, p14])) :
  W (z_law_4 [some (.fz d), some (.fz (.int k)), s2, s3, s4, s5, s6, some (.fz (.lst (xs.map .str))), o8, o9, o10, none, o12, o13, o14]) QS := by
 have hlim : lim = 100000 := rfl
 simp only [z_law_4, PWa, PWc, PWd, PWe, PWl, Sl.val, Sl.put, Sl.mut, Sl.pin, wipeA, unwipe, List.replicate, Nat.reduceAdd, Nat.reduceSub, Nat.reduceLeDiff, notPl, bne, Nat.reduceBEq, Int.reduceNeg, c9, z_law_3]
 have dN : toDD 19 .non = some .none := rfl
 refine due_w hx hl (fun i x h1 h2 h3 => ?_) (fun rs i r h A => ?_) (fun rs h nd hc => ?_) fun rs h nd hc => ?_
 ·simp only [ve, c12, c13, c14, z_law_2]
  refine asked_w hx hl (fun i' x' k1 k2 k3 => ?_) (fun rs i r h A => (bad_rows h1 h2 h).elim) (fun rs h nd hc => (bad_rows h1 h2 h).elim) fun rs h nd hc => (bad_rows h1 h2 h).elim
  have := bad_one h1 h2 h3 k1 k2 k3
  subst this
  simp only [ve, c8]
  exact last_w (w := some 0) (f := natV i) hx hl c10 dN dN rfl (.inr (.inl ⟨i, rfl⟩)) fun p10 e => q _ _ _ _ _ _ rfl rfl e rfl rfl rfl
 ·have tr := nm_tok (rows_ok h r (List.mem_of_getElem? A.1)).1
  simp only [ve, c12, c13, c14, z_law_2]
  refine asked_w hx hl (fun i' x' k1 k2 k3 => (bad_rows k1 k2 h).elim) (fun rs' i' r' h' A' => ?_) (fun rs' h' nd' hc' => ?_) fun rs' h' nd' hc' => ?_
  ·have := rows_one h h'
   subst this
   have := agn_one A A'
   subst this
   simp only [ve, c8]
   exact last_w (w := some 1) (f := .str r.1) hx hl c10 dN dN (str_dd (n := 18) tr) (.inr (.inr ⟨_, rfl⟩)) fun p10 e => q _ _ _ _ _ _ rfl rfl e rfl rfl rfl
  ·have := rows_one h h'
   subst this
   exact (agn_nd A nd').elim
  ·have := rows_one h h'
   subst this
   exact (agn_nd A nd').elim
 ·simp only [ve, c12, c13, c14, z_law_2]
  refine asked_w hx hl (fun i' x' k1 k2 k3 => (bad_rows k1 k2 h).elim) (fun rs' i' r' h' A' => ?_) (fun rs' h' nd' hc' => ?_) fun rs' h' nd' hc' => ?_
  ·have := rows_one h h'
   subst this
   exact (agn_nd A' nd).elim
  ·simp only [ve, c8]
   exact last_w (w := some 2) (f := .non) hx hl c10 dN dN dN (.inl rfl) fun p10 e => q _ _ _ _ _ _ rfl rfl e rfl rfl rfl
  ·have := rows_one h h'
   subst this
   exact absurd hc' hc
 ·have ok : ∀ {t : Tk}, ∀ x ∈ (srtW rs).map fun r => (r, t), RowOk x.1 := fun {t} x hx => by
   obtain ⟨r, hr, rfl⟩ := List.mem_map.mp hx
   exact rows_ok h r ((List.mergeSort_perm _ _).mem_iff.mp hr)
  have dS : ∀ {t : Tk}, toDD 19 (.tup .nod (((srtW rs).map fun r => (r, t)).map rowG)) = some (.tuple ((srtW rs).map rowD)) := fun {t} => by
   show (mapO (toDD 18) (((srtW rs).map fun r => (r, t)).map rowG)).map PyData.tuple = _
   rw [mapO_map (g := toDD 18) (f := rowG) (k := fun x : RowT × Tk => rowD x.1) fun x hx => row_ddG (n := 14) (ok x hx), List.map_map]
   rfl
  simp only [ve, c12, c13, c14, z_law_2]
  refine asked_w hx hl (fun i' x' k1 k2 k3 => (bad_rows k1 k2 h).elim) (fun rs' i' r' h' A' => ?_) (fun rs' h' nd' hc' => ?_) fun rs' h' nd' hc' => ?_
  ·have := rows_one h h'
   subst this
   exact (agn_nd A' nd).elim
  ·have := rows_one h h'
   subst this
   exact absurd hc hc'
  ·have := rows_one h h'
   subst this
   simp only [ve, c8]
   exact last_w (w := none) (f := .non) hx hl c10 dS dS dN (.inl rfl) fun p10 e => q _ _ _ _ _ _ rfl rfl e rfl rfl rfl
end K06
namespace K06
open PySem PySem.Spec PyProof.Rows L2 NdefX GenE Sh Pu Cm Cn K02
theorem row_at {rs : List RowT} {n : Nat} {r : RowT} (h : rs[n]? = some r) : dIx (stockV rs) (natV n) = some (false, rowV r) := by
 have := at_nat (vs := rs.map rowV) (n := n) (v := rowV r) (by rw [List.getElem?_map, h]; rfl)
 unfold stockV
 simp only [dIx, natV, this, Option.map_some]
theorem law_k_w {d : Dv} {ns : List Int} {k : Nat} {o2 o3 o4 o5 o6 o7 o8 o9 o10 o12 o13 o14 : Option Sl} {Q : AOut × AEnv -> Prop} (hd : d = .lst (ns.map .int) \/ d = .fro (ns.map .int)) (c2 : coldB o2 = true) (c3 : coldB o3 = true) (c4 : coldB o4 = true) (c5 : coldB o5 = true) (c6 : coldB o6 = true) (c7 : coldB o7 = true) (c8 : coldB o8 = true) (c9 : coldB o9 = true) (c10 : coldB o10 = true) (c12 : coldB o12 = true) (c13 : coldB o13 = true) (c14 : coldB o14 = true)
  (q : ∀ p2 p3 p4 p5 p6 p7 p8 p9 p10 p12 p13 p14 : Option Sl, coldB p2 = true -> coldB p3 = true -> coldB p4 = true -> coldB p5 = true -> coldB p6 = true -> coldB p7 = true -> coldB p8 = true -> coldB p9 = true -> coldB p10 = true -> coldB p12 = true -> coldB p13 = true -> coldB p14 = true -> Q (.nx, [some (.fz d), some (.fz (.int k)), p2, p3, p4, p5, p6, p7, p8, p9, p10, none, p12, p13, p14])) :
  W (z_law_9 [some (.fz d), some (.fz (.int k)), o2, o3, o4, o5, o6, o7, o8, o9, o10, none, o12, o13, o14]) Q := by
 have hlim : lim = 100000 := rfl
 simp only [z_law_9, PWa, PWc, PWd, PWe, PWl, Sl.val, Sl.put, Sl.mut, Sl.pin, wipeA, unwipe, List.replicate, Nat.reduceAdd, Nat.reduceSub, Nat.reduceLeDiff, notPl, bne, Nat.reduceBEq, Int.reduceNeg]
 refine digits_w hd (Int.natCast_nonneg k) fun h1 => ?_
 simp only [ve, z_law_8, c2]
 refine Cm.stock_w fun rs h2 r1 r4 hrs _ => ?_
 simp only [stockV, PWa, PWc, PWd, PWe, PWl, Sl.val, Sl.put, Sl.mut, Sl.pin, wipeA, unwipe, List.replicate, Nat.reduceAdd, Nat.reduceSub, Nat.reduceLeDiff, notPl, bne, Nat.reduceBEq, Int.reduceNeg, z_law_7, c3]
 refine for_ty rowV rs (fun pre post a => ∃ p4 p8 : Option Sl, a = [some (.fz d), some (.fz (.int k)), some (.own (hl h2)), some (.fz (.tup .nod (rs.map rowV))), p4, o5, o6, o7, p8, o9, o10, none, o12, o13, o14] /\ coldB p4 = true /\ coldB p8 = true) ?_ ?_ ⟨o4, o8, rfl, c4, c8⟩
 ·rintro pre r post a hl' ⟨p4, p8, rfl, e4, e8⟩
  have ok := hrs r (by rw [hl']; simp)
  have g0 : dIx (rowV r) (.int 0) = some (false, .str r.1) := rfl
  have g1 : dIx (rowV r) (.int 1) = some (false, .tup .nod (r.2.map specV)) := rfl
  have tt := (text_tb ok).ok (by decide)
  simp only [ve, e4, z_law_0, g0, g1]
  refine show_kind_w ok ?_
  simp only [ve, e8, k_ss]
  refine law_text_w ok ?_
  have n1 : dNe (.str (textR r)) (.str (textR r)) = some (false, .bl false) := ne_dd (str_dd (n := 19) tt) (str_dd (n := 19) tt)
  simp only [ve, n1]
  exact ⟨_, _, rfl, rfl, rfl⟩
 ·rintro a ⟨p4, p8, rfl, e4, e8⟩
  simp only [ve, z_law_6, List.length_map]
  refine order_w (Int.natCast_nonneg _) (by omega) fun ks h3 hp => ?_
  rw [Int.toNat_natCast] at hp
  have kl := hp.length_eq
  rw [List.length_range] at kl
  simp only [ve]
  have at_k : ∀ n ∈ ks, ∃ r, rs[n]? = some r := fun n hn => ⟨_, List.getElem?_eq_getElem (List.mem_range.mp (hp.mem_iff.mp hn))⟩
  refine lc_tm _ natV ks (fun n : Nat => .str (((rs[n]?).map textR).getD ⟨#[]⟩)) (by omega) (fun n hn => ?_) ?_
  ·obtain ⟨r, e⟩ := at_k n hn
   have ea := row_at e
   unfold stockV at ea
   simp only [ve, ea]
   refine law_text_w (hrs r (List.mem_of_getElem? e)) ?_
   simp only [ve, e, Option.map_some, Option.getD_some]
  have eX : (ks.map fun n : Nat => Dv.str (((rs[n]?).map textR).getD ⟨#[]⟩)) = (ks.map fun n : Nat => ((rs[n]?).map textR).getD ⟨#[]⟩).map .str := by rw [List.map_map]; rfl
  have tX : ∀ x ∈ ks.map fun n : Nat => ((rs[n]?).map textR).getD ⟨#[]⟩, TB 60 x := fun x hx => by
   obtain ⟨n, hn, rfl⟩ := List.mem_map.mp hx
   obtain ⟨r, e⟩ := at_k n hn
   rw [e]
   exact text_tb (hrs r (List.mem_of_getElem? e))
  have lX : (ks.map fun n : Nat => ((rs[n]?).map textR).getD ⟨#[]⟩).length = rs.length := by rw [List.length_map]; exact kl
  simp only [ve]
  rw [eX]
  generalize (ks.map fun n : Nat => ((rs[n]?).map textR).getD ⟨#[]⟩) = xs at tX lX
  simp only [z_law_5, PWa, PWc, PWd, PWe, PWl, Sl.val, Sl.put, Sl.mut, Sl.pin, wipeA, unwipe, List.replicate, Nat.reduceAdd, Nat.reduceSub, Nat.reduceLeDiff, notPl, bne, Nat.reduceBEq, Int.reduceNeg, c5]
  refine digits_w hd (by omega) fun h4 => ?_
  simp only [ve]
  refine bent_w tX (by omega) (by omega) fun b ys h5 ty ly => ?_
  have xok : ∀ x ∈ xs, TOk x := fun x hx => (tX x hx).ok (by decide)
  have go : ∀ {s6 s6' : Option Sl}, coldB s6' = true -> coldB s6 = true -> W (forA (pgN 7) z_law_4 [.lst (xs.map .str), .lst (ys.map .str)] [some (.fz d), some (.fz (.int k)), some (.own (hl h3)), some (.fz (.tup .nod (rs.map rowV))), p4, s6', s6, o7, p8, o9, o10, none, o12, o13, o14]) Q := fun {s6 s6'} h5 h6 => by
   refine for_ty (fun l : List Str => Dv.lst (l.map .str)) [xs, ys] (fun pre post a => ∃ p7 p8 p9 p10 p12 p13 p14 : Option Sl, a = [some (.fz d), some (.fz (.int k)), some (.own (hl h3)), some (.fz (.tup .nod (rs.map rowV))), p4, s6', s6, p7, p8, p9, p10, none, p12, p13, p14] /\ coldB p7 = true /\ coldB p8 = true /\ coldB p9 = true /\ coldB p10 = true /\ coldB p12 = true /\ coldB p13 = true /\ coldB p14 = true) ?_ ?_ ⟨o7, p8, o9, o10, o12, o13, o14, rfl, c7, e8, c9, c10, c12, c13, c14⟩
   ·rintro pre l post a hl' ⟨p7, p8, p9, p10, p12, p13, p14, rfl, e7, e8, e9, e10, e12, e13, e14⟩
    have hm : l = xs \/ l = ys := by
     have : l ∈ [xs, ys] := by rw [hl']; simp
     simpa using this
    have tl : (∀ x ∈ l, TOk x) /\ l.length <= 60 := by
     rcases hm with rfl | rfl
     ·exact ⟨xok, by omega⟩
     ·exact ⟨ty, ly⟩
    simp only [ve, e7]
    exact some_w tl.1 tl.2 e8 e9 e10 e12 e13 e14 fun q8 q9 q10 q12 q13 q14 f8 f9 f10 f12 f13 f14 => ⟨_, _, _, _, _, _, _, rfl, rfl, f8, f9, f10, f12, f13, f14⟩
   ·rintro a ⟨p7, p8, p9, p10, p12, p13, p14, rfl, e7, e8, e9, e10, e12, e13, e14⟩
    exact q _ _ _ _ _ _ _ _ _ _ _ _ rfl rfl e4 h5 h6 e7 e8 e9 e10 e12 e13 e14
  cases b with
  | true =>
   simp only [ve, c6]
   exact go rfl rfl
  | false =>
   simp only [ve, c6]
   exact go rfl rfl
theorem small2 : ∀ n : Fin 64, Builtin.Range.small 0 (if ((n.val : Nat) : Int) > 1 then ((n.val : Nat) : Int) else 1) 2 = true /\ Builtin.Range.rangeSize 0 (if ((n.val : Nat) : Int) > 1 then ((n.val : Nat) : Int) else 1) 2 = (Builtin.Range.rangeSize 0 (if ((n.val : Nat) : Int) > 1 then ((n.val : Nat) : Int) else 1) 2).toNat := by decide +kernel
theorem law_w (d : Dv) (ns : List Int) (hd : d = .lst (ns.map .int) \/ d = .fro (ns.map .int)) (hl : ns.length <= 63) (hb : ∀ z ∈ ns, Builtin.Int.intBits z <= 1048576) : K06.p_law [.fz d] = some ((false, .bl true), none) := by
 apply W.eq
 unfold K06.p_law
 have hlen : ∀ {Q : Bool × Dv -> Prop}, W (dLen d) Q = Q (false, .int ns.length) := fun {Q} => by
  rcases hd with rfl | rfl
  ·rw [o_lenL, List.length_map]
  ·rw [o_lenF, List.length_map]
 simp only [z_law_10, PWa, PWc, PWd, PWe, PWl, Sl.val, Sl.put, Sl.mut, Sl.pin, wipeA, unwipe, List.replicate, Nat.reduceAdd, Nat.reduceSub, Nat.reduceLeDiff, notPl, bne, Nat.reduceBEq, Int.reduceNeg, pMax, hlen]
 obtain ⟨s1, s2⟩ := small2 ⟨ns.length, by omega⟩
 refine ⟨⟨by decide, by decide, s1, s2⟩, ?_⟩
 refine for_w (fun rest a => (∀ x ∈ rest, ∃ k : Nat, x = .int k) /\ ∃ o1 o2 o3 o4 o5 o6 o7 o8 o9 o10 o12 o13 o14 : Option Sl, a = [some (.fz d), o1, o2, o3, o4, o5, o6, o7, o8, o9, o10, none, o12, o13, o14] /\ coldB o1 = true /\ coldB o2 = true /\ coldB o3 = true /\ coldB o4 = true /\ coldB o5 = true /\ coldB o6 = true /\ coldB o7 = true /\ coldB o8 = true /\ coldB o9 = true /\ coldB o10 = true /\ coldB o12 = true /\ coldB o13 = true /\ coldB o14 = true) ?_ ?_ _ _ ⟨fun x hx => rngC_mem (c := 2) hx, none, none, none, none, none, none, none, none, none, none, none, none, none, rfl, rfl, rfl, rfl, rfl, rfl, rfl, rfl, rfl, rfl, rfl, rfl, rfl, rfl⟩
 ·rintro x rest a ⟨hx, o1, o2, o3, o4, o5, o6, o7, o8, o9, o10, o12, o13, o14, rfl, c1, c2, c3, c4, c5, c6, c7, c8, c9, c10, c12, c13, c14⟩
  obtain ⟨k, rfl⟩ := hx _ (.head _)
  simp only [ve, c1]
  refine law_k_w hd c2 c3 c4 c5 c6 c7 c8 c9 c10 c12 c13 c14 fun p2 p3 p4 p5 p6 p7 p8 p9 p10 p12 p13 p14 e2 e3 e4 e5 e6 e7 e8 e9 e10 e12 e13 e14 => ?_
  exact ⟨fun y hy => hx y (.tail _ hy), _, p2, p3, p4, p5, p6, p7, p8, p9, p10, p12, p13, p14, rfl, rfl, e2, e3, e4, e5, e6, e7, e8, e9, e10, e12, e13, e14⟩
 ·rintro a ⟨_, o1, o2, o3, o4, o5, o6, o7, o8, o9, o10, o12, o13, o14, rfl, _⟩
  simp only [ve]
end K06
namespace Cm
open PySem PySem.Spec PyProof.Rows L2 NdefX GenE Sh Pu
open GxR (TabB TabG Tabbed)
def m_law_digits : Fd := runD 6 (sCons (sAsg (eIf (tV (e2 vLtX (eVar 1) (eA (v1 vLen) (aCons (eVar 0) aNil)))) (e2 vIx (eVar 0) (eVar 1)) (eC (.int 0))) (gN 2))
    (sCons (sIf (tV (e2 vGe (eVar 2) (e2 vPow (eC (.int 10)) (eC (.int 18))))) (sRet (eA mkL (aCons (e2 vSub (eVar 2) (e2 vPow (eC (.int 10)) (eC (.int 18)))) aNil))) sNil)
    (sCons (sAsg (eC (.int 0)) (gN 3))
    (sCons (sAsg (e2 vMod (e2 vAdd (e2 vAdd (e2 vMul (eVar 2) (eC (.int 48271))) (e2 vMul (eC (.int 7919)) (eVar 1))) (eC (.int 11))) (eC (.int 2147483647))) (gN 4))
    (sCons (sFor (iRange1 (eC (.int 12))) (gN 5) (sCons (sAsg (e2 vMod (e2 vAdd (e2 vAdd (e2 vMul (eVar 4) (eVar 4)) (e2 vMul (eC (.int 48271)) (eVar 4))) (eVar 5)) (eC (.int 2147483629))) (gN 4))
    (sAsg (e2 vAdd (e2 vMul (eVar 3) (eC (.int 2147483587))) (e2 vMod (e2 vMul (eVar 4) (eC (.int 69621))) (eC (.int 2147483587)))) (gN 3))))
    (sRet (eA mkL (aCons (eVar 3) aNil))))))))
theorem sim_law_digits : AD none m_law_digits p_law_digits := ad_run (as_cons (as_set 2 (ae_if (at_v (ae_2 r_lt (ae_var 1) (ae_1 r_len (ae_var 0)))) (ae_2 r_ix (ae_var 0) (ae_var 1)) (ae_c fun _ _ => .int _)))
  (as_cons (as_if (at_v (ae_2 r_ge (ae_var 2) (ae_2 r_pow (ae_c fun _ _ => .int _) (ae_c fun _ _ => .int _)))) (as_ret (ae_lst (aa_cons (ae_k (ae_2 r_sub (ae_var 2) (ae_2 r_pow (ae_c fun _ _ => .int _) (ae_c fun _ _ => .int _)))) aa_nil))) as_nil)
  (as_cons (as_set 3 (ae_c fun _ _ => .int _))
  (as_cons (as_set 4 (ae_2 r_mod (ae_2 r_add (ae_2 r_add (ae_2 r_mul (ae_var 2) (ae_c fun _ _ => .int _)) (ae_2 r_mul (ae_c fun _ _ => .int _) (ae_var 1))) (ae_c fun _ _ => .int _)) (ae_c fun _ _ => .int _)))
  (as_cons (as_for (ai_r1 (ae_c fun _ _ => .int _)) (ag_n 5) (as_cons (as_set 4 (ae_2 r_mod (ae_2 r_add (ae_2 r_add (ae_2 r_mul (ae_var 4) (ae_var 4)) (ae_2 r_mul (ae_c fun _ _ => .int _) (ae_var 4))) (ae_var 5)) (ae_c fun _ _ => .int _)))
  (as_set 3 (ae_2 r_add (ae_2 r_mul (ae_var 3) (ae_c fun _ _ => .int _)) (ae_2 r_mod (ae_2 r_mul (ae_var 4) (ae_c fun _ _ => .int _)) (ae_c fun _ _ => .int _))))))
  (as_ret (ae_lst (aa_cons (ae_fz 3) aa_nil))))))))
def m_law_take : Fd := runD 3 (sCons (sAsg (e2 vMod (e2 vIx (eVar 0) (eC (.int 0))) (eVar 1)) (gN 2))
    (sCons (sAsg (e2 vDiv (e2 vIx (eVar 0) (eC (.int 0))) (eVar 1)) (gSb (eVar 0) (eC (.int 0))))
    (sRet (eVar 2))))
theorem sim_law_take : AD (some 0) m_law_take p_law_take := ad_run (as_cons (as_set 2 (ae_2 r_mod (ae_2 r_ix (ae_var 0) (ae_c fun _ _ => .int _)) (ae_var 1)))
  (as_cons (as_asg (ae_k (ae_2 r_div (ae_2 r_ix (ae_var 0) (ae_c fun _ _ => .int _)) (ae_var 1))) (ag_sb 0 (ae_c fun _ _ => .int _)))
  (as_retV 2)))
def m_law_words : Fd := runD 9 (sCons (sAsg (eC (.str (Str.ofString "abcdefghijklmnop"))) (gN 2))
    (sCons (sAsg (e2 vJoin (eC (.str (Str.ofString ""))) (eLc [8] (iRange1 (e2 vAdd (eC (.int 2)) (eA m_law_take (aCons (eVar 0) (aCons (eC (.int 6)) aNil))))) (gN 8) tYs (e2 vIx (eVar 2) (eA m_law_take (aCons (eVar 0) (aCons (eC (.int 16)) aNil)))))) (gN 3))
    (sCons (sAsg (eA m_law_take (aCons (eVar 0) (aCons (eA (v1 vLen) (aCons (eVar 3) aNil)) aNil))) (gN 4))
    (sCons (sAsg (e2 vIx (eVar 2) (e2 vMod (e2 vAdd (e2 vAdd (e2 vSIndex (eVar 2) (e2 vIx (eVar 3) (eVar 4))) (eC (.int 1))) (eA m_law_take (aCons (eVar 0) (aCons (eC (.int 15)) aNil)))) (eC (.int 16)))) (gN 5))
    (sCons (sAsg (eA mkL (aCons (eVar 3) (aCons (e2 vAdd (e2 vAdd (eSl (eVar 3) oNone (oSome (eVar 4))) (eVar 5)) (eSl (eVar 3) (oSome (e2 vAdd (eVar 4) (eC (.int 1)))) oNone)) (aCons (e2 vAdd (eVar 3) (eVar 5)) (aCons (eSl (eVar 3) oNone (oSome (eNeg (eC (.int 1))))) aNil))))) (gN 6))
    (sCons (sAsg (eA m_law_take (aCons (eVar 0) (aCons (eC (.int 4)) aNil))) (gN 7))
    (sRet (eLc [8] (iRange1 (eVar 1)) (gN 8) tYs (e2 vIx (eVar 6) (e2 vMod (e2 vAdd (eVar 7) (eVar 8)) (eC (.int 4))))))))))))
theorem sim_law_words : AD (some 0) m_law_words p_law_words := ad_run (as_cons (as_set 2 (ae_c fun _ _ => .str _))
  (as_cons (as_set 3 (ae_2 r_join (ae_c fun _ _ => .str _) (ae_lc (ai_r1 (ae_2 r_add (ae_c fun _ _ => .int _) (ae_call sim_law_take (aa_cons (ae_var 0) (aa_cons (ae_c fun _ _ => .int _) aa_nil))))) (ag_n 8) (tg_n 8) at_ys (ae_2 r_ix (ae_var 2) (ae_call sim_law_take (aa_cons (ae_var 0) (aa_cons (ae_c fun _ _ => .int _) aa_nil)))))))
  (as_cons (as_set 4 (ae_call sim_law_take (aa_cons (ae_var 0) (aa_cons (ae_1 r_len (ae_var 3)) aa_nil))))
  (as_cons (as_set 5 (ae_2 r_ix (ae_var 2) (ae_2 r_mod (ae_2 r_add (ae_2 r_add (ae_2 r_sindex (ae_var 2) (ae_2 r_ix (ae_var 3) (ae_var 4))) (ae_c fun _ _ => .int _)) (ae_call sim_law_take (aa_cons (ae_var 0) (aa_cons (ae_c fun _ _ => .int _) aa_nil)))) (ae_c fun _ _ => .int _))))
  (as_cons (as_set 6 (ae_lst (aa_cons (ae_fz 3) (aa_cons (ae_k (ae_2 r_add (ae_2 r_add (ae_sl (ae_var 3) ao_none (ao_some (ae_var 4))) (ae_var 5)) (ae_sl (ae_var 3) (ao_some (ae_2 r_add (ae_var 4) (ae_c fun _ _ => .int _))) ao_none))) (aa_cons (ae_k (ae_2 r_add (ae_var 3) (ae_var 5))) (aa_cons (ae_k (ae_sl (ae_var 3) ao_none (ao_some (ae_neg (ae_c fun _ _ => .int _))))) aa_nil))))))
  (as_cons (as_set 7 (ae_call sim_law_take (aa_cons (ae_var 0) (aa_cons (ae_c fun _ _ => .int _) aa_nil))))
  (as_ret (ae_lc (ai_r1 (ae_var 1)) (ag_n 8) (tg_n 8) at_ys (ae_2 r_ix (ae_var 6) (ae_2 r_mod (ae_2 r_add (ae_var 7) (ae_var 8)) (ae_c fun _ _ => .int _)))))))))))
def m_law_stock : Fd := runD 9 (sCons (sAsg (eA mkL (aCons (eC (.str (Str.ofString "a"))) (aCons (eC (.str (Str.ofString "add"))) (aCons (eC (.str (Str.ofString "adder"))) (aCons (eC (.str (Str.ofString "cut"))) (aCons (eC (.str (Str.ofString "ring"))) (aCons (eC (.str (Str.ofString "outer"))) (aCons (eC (.str (Str.ofString "rule"))) (aCons (eC (.str (Str.ofString "abcdefgh"))) aNil))))))))) (gN 1))
    (sCons (sAsg (eA m_law_take (aCons (eVar 0) (aCons (eC (.int 8)) aNil))) (gN 2))
    (sCons (sAsg (eLc [6] (iRange1 (eC (.int 4))) (gN 6) tYs (e2 vIx (eVar 1) (e2 vMod (e2 vAdd (eVar 2) (e2 vMul (eC (.int 3)) (eVar 6))) (eC (.int 8))))) (gN 3))
    (sCons (sIf (tV (e2 vEq (eA m_law_take (aCons (eVar 0) (aCons (eC (.int 2)) aNil))) (eC (.int 0)))) (sAsg (eA m_law_words (aCons (eVar 0) (aCons (eC (.int 4)) aNil))) (gN 3)) sNil)
    (sCons (sAsg (eA m_law_words (aCons (eVar 0) (aCons (e2 vAdd (eC (.int 1)) (eA m_law_take (aCons (eVar 0) (aCons (eC (.int 3)) aNil)))) aNil))) (gN 4))
    (sCons (sAsg (eA mkL aNil) (gN 5))
    (sCons (sFor (iRange1 (e2 vAdd (eC (.int 1)) (eA m_law_take (aCons (eVar 0) (aCons (eC (.int 4)) aNil))))) (gN 6) (sCons (sAsg (eA mkL aNil) (gN 7))
    (sCons (sFor (iRange1 (e2 vAdd (eC (.int 1)) (eA m_law_take (aCons (eVar 0) (aCons (eC (.int 4)) aNil))))) (gN 8) (sEx (eApp (eVar 7) (eA mkT (aCons (e2 vIx (eVar 4) (eA m_law_take (aCons (eVar 0) (aCons (eA (v1 vLen) (aCons (eVar 4) aNil)) aNil)))) (aCons (e2 vIx (eC (.str (Str.ofString "+-"))) (eA m_law_take (aCons (eVar 0) (aCons (eC (.int 2)) aNil)))) aNil))))))
    (sCons (sIf (tAn (tV (e2 vNe (eVar 5) (eA mkL aNil))) (tV (e2 vEq (eA m_law_take (aCons (eVar 0) (aCons (eC (.int 3)) aNil))) (eC (.int 0))))) (sAsg (e2 vIx (e2 vIx (eVar 5) (eC (.int 0))) (eC (.int 1))) (gN 7)) sNil)
    (sEx (eApp (eVar 5) (eA mkT (aCons (e2 vIx (eVar 3) (eVar 6)) (aCons (eA (v1 vTuple) (aCons (eVar 7) aNil)) aNil)))))))))
    (sRet (eA (v1 vTuple) (aCons (eA (v1 vSortedX) (aCons (eVar 5) aNil)) aNil))))))))))
theorem sim_law_stock : AD (some 0) m_law_stock p_law_stock := ad_run (as_cons (as_set 1 (ae_lst (aa_cons (ae_c fun _ _ => .str _) (aa_cons (ae_c fun _ _ => .str _) (aa_cons (ae_c fun _ _ => .str _) (aa_cons (ae_c fun _ _ => .str _) (aa_cons (ae_c fun _ _ => .str _) (aa_cons (ae_c fun _ _ => .str _) (aa_cons (ae_c fun _ _ => .str _) (aa_cons (ae_c fun _ _ => .str _) aa_nil))))))))))
  (as_cons (as_set 2 (ae_call sim_law_take (aa_cons (ae_var 0) (aa_cons (ae_c fun _ _ => .int _) aa_nil))))
  (as_cons (as_set 3 (ae_lc (ai_r1 (ae_c fun _ _ => .int _)) (ag_n 6) (tg_n 6) at_ys (ae_2 r_ix (ae_var 1) (ae_2 r_mod (ae_2 r_add (ae_var 2) (ae_2 r_mul (ae_c fun _ _ => .int _) (ae_var 6))) (ae_c fun _ _ => .int _)))))
  (as_cons (as_if (at_v (ae_2 r_eq (ae_call sim_law_take (aa_cons (ae_var 0) (aa_cons (ae_c fun _ _ => .int _) aa_nil))) (ae_c fun _ _ => .int _))) (as_set 3 (ae_call sim_law_words (aa_cons (ae_var 0) (aa_cons (ae_c fun _ _ => .int _) aa_nil)))) as_nil)
  (as_cons (as_set 4 (ae_call sim_law_words (aa_cons (ae_var 0) (aa_cons (ae_2 r_add (ae_c fun _ _ => .int _) (ae_call sim_law_take (aa_cons (ae_var 0) (aa_cons (ae_c fun _ _ => .int _) aa_nil)))) aa_nil))))
  (as_cons (as_set 5 (ae_lst aa_nil))
  (as_cons (as_for (ai_r1 (ae_2 r_add (ae_c fun _ _ => .int _) (ae_call sim_law_take (aa_cons (ae_var 0) (aa_cons (ae_c fun _ _ => .int _) aa_nil))))) (ag_n 6) (as_cons (as_set 7 (ae_lst aa_nil))
  (as_cons (as_for (ai_r1 (ae_2 r_add (ae_c fun _ _ => .int _) (ae_call sim_law_take (aa_cons (ae_var 0) (aa_cons (ae_c fun _ _ => .int _) aa_nil))))) (ag_n 8) (as_ex (ae_app 7 (ae_tup (aa_cons (ae_2 r_ix (ae_var 4) (ae_call sim_law_take (aa_cons (ae_var 0) (aa_cons (ae_1 r_len (ae_var 4)) aa_nil)))) (aa_cons (ae_2 r_ix (ae_c fun _ _ => .str _) (ae_call sim_law_take (aa_cons (ae_var 0) (aa_cons (ae_c fun _ _ => .int _) aa_nil)))) aa_nil))))))
  (as_cons (as_if (at_and (at_v (ae_2 r_ne (ae_var 5) (ae_lst aa_nil))) (at_v (ae_2 r_eq (ae_call sim_law_take (aa_cons (ae_var 0) (aa_cons (ae_c fun _ _ => .int _) aa_nil))) (ae_c fun _ _ => .int _)))) (as_set 7 (ae_2 r_ix (ae_2 r_ix (ae_var 5) (ae_c fun _ _ => .int _)) (ae_c fun _ _ => .int _))) as_nil)
  (as_ex (ae_app 5 (ae_tup (aa_cons (ae_2 r_ix (ae_var 3) (ae_var 6)) (aa_cons (ae_k (ae_1 r_tuple (ae_var 7))) aa_nil)))))))))
  (as_ret (ae_1 r_tuple (ae_1 r_sortedX (ae_var 5)))))))))))
def m_law_order : Fd := runD 4 (sCons (sAsg (eA (v1 vListRg) (aCons (eVar 1) aNil)) (gN 2))
    (sCons (sAsg (eA mkL aNil) (gN 3))
    (sCons (sWhile (tV (e2 vNe (eVar 2) (eA mkL aNil))) (sEx (eApp (eVar 3) (eM1 vPopAt (eVar 2) (eA m_law_take (aCons (eVar 0) (aCons (eA (v1 vLen) (aCons (eVar 2) aNil)) aNil)))))))
    (sRet (eVar 3)))))
theorem sim_law_order : AD (some 0) m_law_order p_law_order := ad_run (as_cons (as_set 2 (ae_1 r_listRg (ae_var 1)))
  (as_cons (as_set 3 (ae_lst aa_nil))
  (as_cons (as_while (at_v (ae_2 r_ne (ae_var 2) (ae_lst aa_nil))) (as_ex (ae_app 3 (ae_k (ae_pop 2 (ae_call sim_law_take (aa_cons (ae_var 0) (aa_cons (ae_1 r_len (ae_var 2)) aa_nil))))))))
  (as_retV 3))))
end Cm
namespace K06
open PySem PySem.Spec PyProof.Rows L2 NdefX GenE Sh Pu
open GxR (TabB TabG Tabbed)
def m_is_tuple : Fd := runD 2 (sRet (eAnd (eIsi "tuple" (eVar 0)) (e2 vEq (eA (v1 vLen) (aCons (eVar 0) aNil)) (eVar 1))))
theorem sim_is_tuple : AD none m_is_tuple p_is_tuple := ad_run (as_ret (ae_and (ae_isi (ae_var 0)) (ae_2 r_eq (ae_1 r_len (ae_var 0)) (ae_var 1))))
def m_rises : Fd := runD 1 (sRet (eAllG false 1 [0] (iRange1 (e2 vSub (eA (v1 vLen) (aCons (eVar 0) aNil)) (eC (.int 1)))) (gN 0) tYs (e2 vLtD (e2 vIx (eVar 1) (eVar 0)) (e2 vIx (eVar 1) (e2 vAdd (eVar 0) (eC (.int 1)))))))
theorem sim_rises : AD none m_rises p_rises := ad_run (as_ret (ae_allG (ai_r1 (ae_2 r_sub (ae_1 r_len (ae_var 0)) (ae_c fun _ _ => .int _))) (ag_n 0) at_ys (ae_2 r_ltD (ae_2 r_ix (ae_var 1) (ae_var 0)) (ae_2 r_ix (ae_var 1) (ae_2 r_add (ae_var 0) (ae_c fun _ _ => .int _))))))
def m_is_spelled : Fd := runD 3 (sRet (eAnd (e3 vLe vLe (eC (.int 1)) (eA (v1 vLen) (aCons (eVar 0) aNil)) (eVar 2)) (eAllG false 1 [1] (iSeq (eVar 0)) (gN 0) tYs (e2 vIn (eVar 0) (eVar 1)))))
theorem sim_is_spelled : AD none m_is_spelled p_is_spelled := ad_run (as_ret (ae_and (ae_3 r_le r_le (ae_c fun _ _ => .int _) (ae_1 r_len (ae_var 0)) (ae_var 2)) (ae_allG (ai_seq (ae_var 0)) (ag_n 0) at_ys (ae_2 r_in (ae_var 0) (ae_var 1)))))
def m_is_name : Fd := runD 1 (sRet (eAnd (eIsi "str" (eVar 0)) (eA m_is_spelled (aCons (eVar 0) (aCons (eC (.str (Str.ofString "abcdefghijklmnopqrstuvwxyz"))) (aCons (eC (.int (8))) aNil))))))
theorem sim_is_name : AD none m_is_name p_is_name := ad_run (as_ret (ae_and (ae_isi (ae_var 0)) (ae_call sim_is_spelled (aa_cons (ae_var 0) (aa_cons (ae_c fun _ _ => .str _) (aa_cons (ae_c fun _ _ => .int _) aa_nil))))))
def m_is_spec : Fd := runD 1 (sRet (eAnd (eA m_is_tuple (aCons (eVar 0) (aCons (eC (.int 2)) aNil))) (eAnd (eA m_is_name (aCons (e2 vIx (eVar 0) (eC (.int 0))) aNil)) (e2 vIn (e2 vIx (eVar 0) (eC (.int 1))) (eA mkT (aCons (eC (.str (Str.ofString "+"))) (aCons (eC (.str (Str.ofString "-"))) aNil)))))))
theorem sim_is_spec : AD none m_is_spec p_is_spec := ad_run (as_ret (ae_and (ae_call sim_is_tuple (aa_cons (ae_var 0) (aa_cons (ae_c fun _ _ => .int _) aa_nil))) (ae_and (ae_call sim_is_name (aa_cons (ae_2 r_ix (ae_var 0) (ae_c fun _ _ => .int _)) aa_nil)) (ae_2 r_in (ae_2 r_ix (ae_var 0) (ae_c fun _ _ => .int _)) (ae_tup (aa_cons (ae_c fun _ _ => .str _) (aa_cons (ae_c fun _ _ => .str _) aa_nil)))))))
def m_are_specs : Fd := runD 1 (sRet (eAnd (eIsi "tuple" (eVar 0)) (eAllG false 1 [] (iSeq (eVar 0)) (gN 0) tYs (eA m_is_spec (aCons (eVar 0) aNil)))))
theorem sim_are_specs : AD none m_are_specs p_are_specs := ad_run (as_ret (ae_and (ae_isi (ae_var 0)) (ae_allG (ai_seq (ae_var 0)) (ag_n 0) at_ys (ae_call sim_is_spec (aa_cons (ae_var 0) aa_nil)))))
def m_is_entry : Fd := runD 3 (sCons (sIf (tN (tV (eA m_is_tuple (aCons (eVar 0) (aCons (eC (.int 2)) aNil))))) (sRet (eC (.bl false))) sNil)
    (sCons (sAsg (eVar 0) (gT 2 (gsCons (gN 1) (gsCons (gN 2) gsNil))))
    (sRet (eAnd (eA m_is_name (aCons (eVar 1) aNil)) (eAnd (eA m_are_specs (aCons (eVar 2) aNil)) (e3 vLe vLe (eC (.int 1)) (eA (v1 vLen) (aCons (eVar 2) aNil)) (eC (.int (4)))))))))
theorem sim_is_entry : AD none m_is_entry p_is_entry := ad_run (as_cons (as_if (at_not (at_v (ae_call sim_is_tuple (aa_cons (ae_var 0) (aa_cons (ae_c fun _ _ => .int _) aa_nil))))) (as_ret (ae_c fun _ _ => .bl _)) as_nil)
  (as_cons (as_asg (ae_fz 0) (ag_t (ags_cons (ag_n 1) (ags_cons (ag_n 2) ags_nil))))
  (as_ret (ae_and (ae_call sim_is_name (aa_cons (ae_var 1) aa_nil)) (ae_and (ae_call sim_are_specs (aa_cons (ae_var 2) aa_nil)) (ae_3 r_le r_le (ae_c fun _ _ => .int _) (ae_1 r_len (ae_var 2)) (ae_c fun _ _ => .int _)))))))
def m_is_stock : Fd := runD 2 (sCons (sIf (tO (tN (tV (eIsi "tuple" (eVar 0)))) (tN (tV (e3 vLe vLe (eC (.int 1)) (eA (v1 vLen) (aCons (eVar 0) aNil)) (eC (.int (8))))))) (sRet (eC (.bl false))) sNil)
    (sCons (sIf (tN (tV (eAllG false 1 [] (iSeq (eVar 0)) (gN 0) tYs (eA m_is_entry (aCons (eVar 0) aNil))))) (sRet (eC (.bl false))) sNil)
    (sRet (eA m_rises (aCons (eLc [1] (iSeq (eVar 0)) (gN 1) tYs (e2 vIx (eVar 1) (eC (.int 0)))) aNil)))))
theorem sim_is_stock : AD none m_is_stock p_is_stock := ad_run (as_cons (as_if (at_or (at_not (at_v (ae_isi (ae_var 0)))) (at_not (at_v (ae_3 r_le r_le (ae_c fun _ _ => .int _) (ae_1 r_len (ae_var 0)) (ae_c fun _ _ => .int _))))) (as_ret (ae_c fun _ _ => .bl _)) as_nil)
  (as_cons (as_if (at_not (at_v (ae_allG (ai_seq (ae_var 0)) (ag_n 0) at_ys (ae_call sim_is_entry (aa_cons (ae_fz 0) aa_nil))))) (as_ret (ae_c fun _ _ => .bl _)) as_nil)
  (as_ret (ae_call sim_rises (aa_cons (ae_lc (ai_seq (ae_var 0)) (ag_n 1) (tg_n 1) at_ys (ae_2 r_ix (ae_var 1) (ae_c fun _ _ => .int _))) aa_nil)))))
def m_show_spec : Fd := runD 3 (sCons (sAsg (eVar 0) (gT 2 (gsCons (gN 1) (gsCons (gN 2) gsNil))))
    (sRet (e2 vAdd (eVar 2) (eVar 1))))
theorem sim_show_spec : AD none m_show_spec p_show_spec := ad_run (as_cons (as_asg (ae_fz 0) (ag_t (ags_cons (ag_n 1) (ags_cons (ag_n 2) ags_nil))))
  (as_ret (ae_2 r_add (ae_var 2) (ae_var 1))))
def m_read_spec : Fd := runD 1 (sRet (eA mkT (aCons (eSl (eVar 0) (oSome (eC (.int 1))) oNone) (aCons (eSl (eVar 0) oNone (oSome (eC (.int 1)))) aNil))))
theorem sim_read_spec : AD none m_read_spec p_read_spec := ad_run (as_ret (ae_tup (aa_cons (ae_k (ae_sl (ae_var 0) (ao_some (ae_c fun _ _ => .int _)) ao_none)) (aa_cons (ae_k (ae_sl (ae_var 0) ao_none (ao_some (ae_c fun _ _ => .int _)))) aa_nil))))
def m_show_kind : Fd := runD 3 (sRet (e2 vJoin (eC (.str (Str.ofString " "))) (e2 vAdd (eA mkL (aCons (eVar 0) (aCons (eC (.str (Str.ofString "="))) aNil))) (eLc [2] (iSeq (eVar 1)) (gN 2) tYs (eA m_show_spec (aCons (eVar 2) aNil))))))
theorem sim_show_kind : AD none m_show_kind p_show_kind := ad_run (as_ret (ae_2 r_join (ae_c fun _ _ => .str _) (ae_2 r_add (ae_lst (aa_cons (ae_fz 0) (aa_cons (ae_c fun _ _ => .str _) aa_nil))) (ae_lc (ai_seq (ae_var 1)) (ag_n 2) (tg_n 2) at_ys (ae_k (ae_call sim_show_spec (aa_cons (ae_fz 2) aa_nil)))))))
def m_read_kind : Fd := runD 3 (sCons (sAsg (e2 vSplit (eVar 0) (eC (.str (Str.ofString " ")))) (gN 1))
    (sCons (sAsg (eA mkT (aCons (e2 vIx (eVar 1) (eC (.int 0))) (aCons (eColG finT 1 [] (iSeq (eSl (eVar 1) (oSome (eC (.int 2))) oNone)) (gN 0) tYs (eA m_read_spec (aCons (eVar 0) aNil))) aNil))) (gN 2))
    (sRet (eIf (tAn (tV (e2 vEq (eSl (eVar 1) (oSome (eC (.int 1))) (oSome (eC (.int 2)))) (eA mkL (aCons (eC (.str (Str.ofString "="))) aNil)))) (tV (eA m_is_entry (aCons (eVar 2) aNil)))) (eVar 2) (eC .non)))))
theorem sim_read_kind : AD none m_read_kind p_read_kind := ad_run (as_cons (as_set 1 (ae_2 r_split (ae_var 0) (ae_c fun _ _ => .str _)))
  (as_cons (as_set 2 (ae_tup (aa_cons (ae_2 r_ix (ae_var 1) (ae_c fun _ _ => .int _)) (aa_cons (ae_k (ae_colG r_finT (ai_seq (ae_sl (ae_var 1) (ao_some (ae_c fun _ _ => .int _)) ao_none)) (ag_n 0) at_ys (ae_k (ae_call sim_read_spec (aa_cons (ae_var 0) aa_nil))))) aa_nil))))
  (as_ret (ae_if (at_and (at_v (ae_2 r_eq (ae_sl (ae_var 1) (ao_some (ae_c fun _ _ => .int _)) (ao_some (ae_c fun _ _ => .int _))) (ae_lst (aa_cons (ae_c fun _ _ => .str _) aa_nil)))) (at_v (ae_call sim_is_entry (aa_cons (ae_fz 2) aa_nil)))) (ae_fz 2) (ae_c fun _ _ => .non)))))
def m_read_stock : Fd := runD 8 (sCons (sAsg (eLc [7] (iSeq (eVar 0)) (gN 7) tYs (eA m_read_kind (aCons (eVar 7) aNil))) (gN 1))
    (sCons (sFor (Sh.iEnum (eVar 1)) (gT 2 (gsCons (gN 4) (gsCons (gN 5) gsNil))) (sIf (tV (e2 vIs (eVar 5) (eC .non))) (sRaiseF "NoText" "at" (eVar 4)) sNil))
    (sCons (sAsg (eLc [5] (iSeq (eVar 1)) (gN 5) tYs (e2 vIx (eVar 5) (eC (.int 0)))) (gN 2))
    (sCons (sFor (Sh.iEnum (eVar 2)) (gT 2 (gsCons (gN 4) (gsCons (gN 6) gsNil))) (sIf (tV (e2 vIn (eVar 6) (eSl (eVar 2) oNone (oSome (eVar 4))))) (sRaiseF "Twice" "name" (eVar 6)) sNil))
    (sCons (sAsg (eA (v1 vTuple) (aCons (eA (v1 vSortedX) (aCons (eVar 1) aNil)) aNil)) (gN 3))
    (sCons (sIf (tN (tV (eA m_is_stock (aCons (eVar 3) aNil)))) (sRaiseM "NoStock") sNil)
    (sRet (eVar 3))))))))
theorem sim_read_stock : AD none m_read_stock p_read_stock := ad_run (as_cons (as_set 1 (ae_lc (ai_seq (ae_var 0)) (ag_n 7) (tg_n 7) at_ys (ae_k (ae_call sim_read_kind (aa_cons (ae_var 7) aa_nil)))))
  (as_cons (as_for (ai_enum (ae_var 1)) (ag_t (ags_cons (ag_n 4) (ags_cons (ag_n 5) ags_nil))) (as_if (at_v (ae_2 r_is (ae_var 5) (ae_c fun _ _ => .non))) (as_raiseF "NoText" "at" (ae_fz 4)) as_nil))
  (as_cons (as_set 2 (ae_lc (ai_seq (ae_var 1)) (ag_n 5) (tg_n 5) at_ys (ae_2 r_ix (ae_var 5) (ae_c fun _ _ => .int _))))
  (as_cons (as_for (ai_enum (ae_var 2)) (ag_t (ags_cons (ag_n 4) (ags_cons (ag_n 6) ags_nil))) (as_if (at_v (ae_2 r_in (ae_var 6) (ae_sl (ae_var 2) ao_none (ao_some (ae_var 4))))) (as_raiseF "Twice" "name" (ae_fz 6)) as_nil))
  (as_cons (as_set 3 (ae_1 r_tuple (ae_1 r_sortedX (ae_var 1))))
  (as_cons (as_if (at_not (at_v (ae_call sim_is_stock (aa_cons (ae_var 3) aa_nil)))) (as_raiseM "NoStock") as_nil)
  (as_retV 3)))))))
def m_law_asked : Fd := runD 5 (sCons (sAsg (eC .non) (gN 1))
    (sCons (sAsg (eA mkL aNil) (gN 2))
    (sCons (sAsg (eC .non) (gN 3))
    (sCons (sTry (sAsgX (eA m_read_stock (aCons (eVar 0) aNil)) (gN 1)) (csTwo (csOf cst_law_asked_0) (csTwo (csOf cst_law_asked_1) (csOf cst_law_asked_2))) (hTwo (csOf cst_law_asked_0) (hKindsAt 4 2 3 "at" (kbOf kbt_law_asked_0)) (hTwo (csOf cst_law_asked_1) (hKindsAt 4 2 3 "name" (kbOf kbt_law_asked_1)) (hKinds 4 2 (kbOf kbt_law_asked_2)))))
    (sRet (eA mkT (aCons (eVar 1) (aCons (eVar 2) (aCons (eVar 3) aNil)))))))))
theorem sim_law_asked : AD none m_law_asked p_law_asked := ad_run (as_cons (as_set 1 (ae_c fun _ _ => .non))
  (as_cons (as_set 2 (ae_lst aa_nil))
  (as_cons (as_set 3 (ae_c fun _ _ => .non))
  (as_cons (as_try (as_setX 1 (ae_call sim_read_stock (aa_cons (ae_var 0) aa_nil))) (ah_two (ah_kindsAt 4 2 3 "at" _) (ah_two (ah_kindsAt 4 2 3 "name" _) (ah_kinds 4 2 _))))
  (as_ret (ae_tup (aa_cons (ae_fz 1) (aa_cons (ae_fz 2) (aa_cons (ae_fz 3) aa_nil)))))))))
def m_law_text : Fd := runD 2 (sRet (e2 vJoin (eC (.str (Str.ofString " "))) (e2 vAdd (eA mkL (aCons (e2 vIx (eVar 0) (eC (.int 0))) (aCons (eC (.str (Str.ofString "="))) aNil))) (eLc [1] (iSeq (e2 vIx (eVar 0) (eC (.int 1)))) (gN 1) tYs (e2 vAdd (e2 vIx (eVar 1) (eC (.int 1))) (e2 vIx (eVar 1) (eC (.int 0))))))))
theorem sim_law_text : AD none m_law_text p_law_text := ad_run (as_ret (ae_2 r_join (ae_c fun _ _ => .str _) (ae_2 r_add (ae_lst (aa_cons (ae_2 r_ix (ae_var 0) (ae_c fun _ _ => .int _)) (aa_cons (ae_c fun _ _ => .str _) aa_nil))) (ae_lc (ai_seq (ae_2 r_ix (ae_var 0) (ae_c fun _ _ => .int _))) (ag_n 1) (tg_n 1) at_ys (ae_k (ae_2 r_add (ae_2 r_ix (ae_var 1) (ae_c fun _ _ => .int _)) (ae_2 r_ix (ae_var 1) (ae_c fun _ _ => .int _))))))))
def m_law_bent_text : Fd := runD 9 (sCons (sAsg (e2 vAdd (eC (.str (Str.ofString " =+-0nzA_"))) (eVar 1)) (gN 2))
    (sCons (sAsg (e2 vIx (eVar 2) (eA Cm.m_law_take (aCons (eVar 0) (aCons (eA (v1 vLen) (aCons (eVar 2) aNil)) aNil)))) (gN 3))
    (sCons (sAsg (eA Cm.m_law_take (aCons (eVar 0) (aCons (e2 vAdd (eA (v1 vLen) (aCons (eVar 1) aNil)) (eC (.int 1))) aNil))) (gN 4))
    (sCons (sAsg (e2 vSplit (eVar 1) (eC (.str (Str.ofString " ")))) (gN 5))
    (sCons (sAsg (eA Cm.m_law_take (aCons (eVar 0) (aCons (eA (v1 vLen) (aCons (eVar 5) aNil)) aNil))) (gN 6))
    (sCons (sAsg (e2 vIx (eA mkL (aCons (eC (.str (Str.ofString ""))) (aCons (eC (.str (Str.ofString "="))) (aCons (eC (.str (Str.ofString "+n"))) (aCons (eC (.str (Str.ofString "-net"))) (aCons (eC (.str (Str.ofString "n"))) (aCons (eC (.str (Str.ofString "+"))) (aCons (eC (.str (Str.ofString "+N"))) (aCons (eC (.str (Str.ofString "++n"))) (aCons (eC (.str (Str.ofString "*n"))) (aCons (eC (.str (Str.ofString "add"))) (aCons (eC (.str (Str.ofString "abcdefghi"))) (aCons (eC (.str (Str.ofString "+abcdefghi"))) aNil))))))))))))) (eA Cm.m_law_take (aCons (eVar 0) (aCons (eC (.int 12)) aNil)))) (gN 7))
    (sCons (sAsg (eA mkL (aCons (e2 vAdd (e2 vAdd (eSl (eVar 1) oNone (oSome (eVar 4))) (eVar 3)) (eSl (eVar 1) (oSome (eVar 4)) oNone)) (aCons (e2 vAdd (eSl (eVar 1) oNone (oSome (eVar 4))) (eSl (eVar 1) (oSome (e2 vAdd (eVar 4) (eC (.int 1)))) oNone)) (aCons (e2 vAdd (e2 vAdd (eSl (eVar 1) oNone (oSome (eVar 4))) (eVar 3)) (eSl (eVar 1) (oSome (e2 vAdd (eVar 4) (eC (.int 1)))) oNone)) (aCons (eSl (eVar 1) oNone (oSome (eVar 4))) aNil))))) (gN 8))
    (sCons (sAsg (e2 vAdd (eVar 8) (eA mkL (aCons (e2 vJoin (eC (.str (Str.ofString " "))) (e2 vAdd (e2 vAdd (eSl (eVar 5) oNone (oSome (eVar 6))) (eA mkL (aCons (eVar 7) aNil))) (eSl (eVar 5) (oSome (e2 vAdd (eVar 6) (eC (.int 1)))) oNone))) (aCons (e2 vJoin (eC (.str (Str.ofString " "))) (e2 vAdd (eSl (eVar 5) oNone (oSome (eVar 6))) (eSl (eVar 5) (oSome (e2 vAdd (eVar 6) (eC (.int 1)))) oNone))) aNil)))) (gN 8))
    (sCons (sAsg (e2 vAdd (eVar 8) (eA mkL (aCons (e2 vJoin (eC (.str (Str.ofString " "))) (e2 vAdd (e2 vAdd (eSl (eVar 5) oNone (oSome (eVar 6))) (eA mkL (aCons (eVar 7) aNil))) (eSl (eVar 5) (oSome (eVar 6)) oNone))) (aCons (e2 vJoin (eC (.str (Str.ofString " "))) (eSl (eVar 5) oNone (oSome (eC (.int 2))))) (aCons (e2 vAdd (eVar 1) (eC (.str (Str.ofString " +n -n +n -n")))) aNil))))) (gN 8))
    (sRet (e2 vIx (e2 vAdd (eVar 8) (eA mkL (aCons (e2 vAdd (eVar 1) (eC (.str (Str.ofString " +nn")))) (aCons (eC (.str (Str.ofString ""))) aNil)))) (eA Cm.m_law_take (aCons (eVar 0) (aCons (eC (.int 11)) aNil))))))))))))))
theorem sim_law_bent_text : AD (some 0) m_law_bent_text p_law_bent_text := ad_run (as_cons (as_set 2 (ae_2 r_add (ae_c fun _ _ => .str _) (ae_var 1)))
  (as_cons (as_set 3 (ae_2 r_ix (ae_var 2) (ae_call Cm.sim_law_take (aa_cons (ae_var 0) (aa_cons (ae_1 r_len (ae_var 2)) aa_nil)))))
  (as_cons (as_set 4 (ae_call Cm.sim_law_take (aa_cons (ae_var 0) (aa_cons (ae_2 r_add (ae_1 r_len (ae_var 1)) (ae_c fun _ _ => .int _)) aa_nil))))
  (as_cons (as_set 5 (ae_2 r_split (ae_var 1) (ae_c fun _ _ => .str _)))
  (as_cons (as_set 6 (ae_call Cm.sim_law_take (aa_cons (ae_var 0) (aa_cons (ae_1 r_len (ae_var 5)) aa_nil))))
  (as_cons (as_set 7 (ae_2 r_ix (ae_lst (aa_cons (ae_c fun _ _ => .str _) (aa_cons (ae_c fun _ _ => .str _) (aa_cons (ae_c fun _ _ => .str _) (aa_cons (ae_c fun _ _ => .str _) (aa_cons (ae_c fun _ _ => .str _) (aa_cons (ae_c fun _ _ => .str _) (aa_cons (ae_c fun _ _ => .str _) (aa_cons (ae_c fun _ _ => .str _) (aa_cons (ae_c fun _ _ => .str _) (aa_cons (ae_c fun _ _ => .str _) (aa_cons (ae_c fun _ _ => .str _) (aa_cons (ae_c fun _ _ => .str _) aa_nil))))))))))))) (ae_call Cm.sim_law_take (aa_cons (ae_var 0) (aa_cons (ae_c fun _ _ => .int _) aa_nil)))))
  (as_cons (as_set 8 (ae_lst (aa_cons (ae_k (ae_2 r_add (ae_2 r_add (ae_sl (ae_var 1) ao_none (ao_some (ae_var 4))) (ae_var 3)) (ae_sl (ae_var 1) (ao_some (ae_var 4)) ao_none))) (aa_cons (ae_k (ae_2 r_add (ae_sl (ae_var 1) ao_none (ao_some (ae_var 4))) (ae_sl (ae_var 1) (ao_some (ae_2 r_add (ae_var 4) (ae_c fun _ _ => .int _))) ao_none))) (aa_cons (ae_k (ae_2 r_add (ae_2 r_add (ae_sl (ae_var 1) ao_none (ao_some (ae_var 4))) (ae_var 3)) (ae_sl (ae_var 1) (ao_some (ae_2 r_add (ae_var 4) (ae_c fun _ _ => .int _))) ao_none))) (aa_cons (ae_k (ae_sl (ae_var 1) ao_none (ao_some (ae_var 4)))) aa_nil))))))
  (as_cons (as_set 8 (ae_2 r_add (ae_var 8) (ae_lst (aa_cons (ae_k (ae_2 r_join (ae_c fun _ _ => .str _) (ae_2 r_add (ae_2 r_add (ae_sl (ae_var 5) ao_none (ao_some (ae_var 6))) (ae_lst (aa_cons (ae_fz 7) aa_nil))) (ae_sl (ae_var 5) (ao_some (ae_2 r_add (ae_var 6) (ae_c fun _ _ => .int _))) ao_none)))) (aa_cons (ae_k (ae_2 r_join (ae_c fun _ _ => .str _) (ae_2 r_add (ae_sl (ae_var 5) ao_none (ao_some (ae_var 6))) (ae_sl (ae_var 5) (ao_some (ae_2 r_add (ae_var 6) (ae_c fun _ _ => .int _))) ao_none)))) aa_nil)))))
  (as_cons (as_set 8 (ae_2 r_add (ae_var 8) (ae_lst (aa_cons (ae_k (ae_2 r_join (ae_c fun _ _ => .str _) (ae_2 r_add (ae_2 r_add (ae_sl (ae_var 5) ao_none (ao_some (ae_var 6))) (ae_lst (aa_cons (ae_fz 7) aa_nil))) (ae_sl (ae_var 5) (ao_some (ae_var 6)) ao_none)))) (aa_cons (ae_k (ae_2 r_join (ae_c fun _ _ => .str _) (ae_sl (ae_var 5) ao_none (ao_some (ae_c fun _ _ => .int _))))) (aa_cons (ae_k (ae_2 r_add (ae_var 1) (ae_c fun _ _ => .str _))) aa_nil))))))
  (as_ret (ae_2 r_ix (ae_2 r_add (ae_var 8) (ae_lst (aa_cons (ae_k (ae_2 r_add (ae_var 1) (ae_c fun _ _ => .str _))) (aa_cons (ae_c fun _ _ => .str _) aa_nil)))) (ae_call Cm.sim_law_take (aa_cons (ae_var 0) (aa_cons (ae_c fun _ _ => .int _) aa_nil))))))))))))))
def m_law_bent : Fd := runD 8 (sCons (sAsg (eA Cm.m_law_take (aCons (eVar 0) (aCons (eC (.int 6)) aNil))) (gN 2))
    (sCons (sAsg (eA Cm.m_law_take (aCons (eVar 0) (aCons (eA (v1 vLen) (aCons (eVar 1) aNil)) aNil))) (gN 3))
    (sCons (sIf (tV (e2 vLtX (eVar 2) (eC (.int 3)))) (sRet (e2 vAdd (e2 vAdd (eSl (eVar 1) oNone (oSome (eVar 3))) (eA mkL (aCons (eA m_law_bent_text (aCons (eVar 0) (aCons (e2 vIx (eVar 1) (eVar 3)) aNil))) aNil))) (eSl (eVar 1) (oSome (e2 vAdd (eVar 3) (eC (.int 1)))) oNone))) sNil)
    (sCons (sIf (tV (e2 vEq (eVar 2) (eC (.int 3)))) (sCons (sAsg (e2 vIx (eA mkL (aCons (e2 vIx (eVar 1) (eVar 3)) (aCons (e2 vAdd (e2 vIx (eVar 1) (eVar 3)) (eC (.str (Str.ofString " +n")))) (aCons (e2 vAdd (e2 vIx (e2 vSplit (e2 vIx (eVar 1) (eVar 3)) (eC (.str (Str.ofString " ")))) (eC (.int 0))) (eC (.str (Str.ofString " = -n")))) aNil)))) (eA Cm.m_law_take (aCons (eVar 0) (aCons (eC (.int 3)) aNil)))) (gN 4))
    (sRet (e2 vAdd (e2 vAdd (eSl (eVar 1) oNone (oSome (eA Cm.m_law_take (aCons (eVar 0) (aCons (e2 vAdd (eA (v1 vLen) (aCons (eVar 1) aNil)) (eC (.int 1))) aNil))))) (eA mkL (aCons (eVar 4) aNil))) (eVar 1)))) sNil)
    (sCons (sIf (tV (e2 vEq (eVar 2) (eC (.int 4)))) (sCons (sAsg (eLc [6] (iSeq (eSl (eC (.str (Str.ofString "abcdefgh"))) oNone (oSome (e2 vSub (e2 vIx (eA mkL (aCons (eC (.int 8)) (aCons (eC (.int 9)) aNil))) (eA Cm.m_law_take (aCons (eVar 0) (aCons (eC (.int 2)) aNil)))) (eA (v1 vLen) (aCons (eVar 1) aNil)))))) (gN 6) tYs (e2 vAdd (e2 vAdd (eC (.str (Str.ofString "zz"))) (eVar 6)) (eC (.str (Str.ofString " = +n"))))) (gN 5))
    (sRet (eIf (tV (e2 vEq (eA Cm.m_law_take (aCons (eVar 0) (aCons (eC (.int 2)) aNil))) (eC (.int 0)))) (e2 vAdd (eVar 1) (eVar 5)) (e2 vAdd (eVar 5) (eVar 1))))) sNil)
    (sRet (e2 vIx (eA mkL (aCons (eA mkL aNil) (aCons (eSl (eVar 1) (oSome (eVar 3)) oNone) (aCons (e2 vAdd (eVar 1) (eVar 1)) (aCons (eLc [7] (iSeq (eVar 1)) (gN 7) tYs (eA m_law_bent_text (aCons (eVar 0) (aCons (eVar 7) aNil)))) aNil))))) (eA Cm.m_law_take (aCons (eVar 0) (aCons (eC (.int 4)) aNil))))))))))
theorem sim_law_bent : AD (some 0) m_law_bent p_law_bent := ad_run (as_cons (as_set 2 (ae_call Cm.sim_law_take (aa_cons (ae_var 0) (aa_cons (ae_c fun _ _ => .int _) aa_nil))))
  (as_cons (as_set 3 (ae_call Cm.sim_law_take (aa_cons (ae_var 0) (aa_cons (ae_1 r_len (ae_var 1)) aa_nil))))
  (as_cons (as_if (at_v (ae_2 r_lt (ae_var 2) (ae_c fun _ _ => .int _))) (as_ret (ae_2 r_add (ae_2 r_add (ae_sl (ae_var 1) ao_none (ao_some (ae_var 3))) (ae_lst (aa_cons (ae_k (ae_call sim_law_bent_text (aa_cons (ae_var 0) (aa_cons (ae_2 r_ix (ae_var 1) (ae_var 3)) aa_nil)))) aa_nil))) (ae_sl (ae_var 1) (ao_some (ae_2 r_add (ae_var 3) (ae_c fun _ _ => .int _))) ao_none))) as_nil)
  (as_cons (as_if (at_v (ae_2 r_eq (ae_var 2) (ae_c fun _ _ => .int _))) (as_cons (as_set 4 (ae_2 r_ix (ae_lst (aa_cons (ae_2 r_ix (ae_var 1) (ae_var 3)) (aa_cons (ae_k (ae_2 r_add (ae_2 r_ix (ae_var 1) (ae_var 3)) (ae_c fun _ _ => .str _))) (aa_cons (ae_k (ae_2 r_add (ae_2 r_ix (ae_2 r_split (ae_2 r_ix (ae_var 1) (ae_var 3)) (ae_c fun _ _ => .str _)) (ae_c fun _ _ => .int _)) (ae_c fun _ _ => .str _))) aa_nil)))) (ae_call Cm.sim_law_take (aa_cons (ae_var 0) (aa_cons (ae_c fun _ _ => .int _) aa_nil)))))
  (as_ret (ae_2 r_add (ae_2 r_add (ae_sl (ae_var 1) ao_none (ao_some (ae_call Cm.sim_law_take (aa_cons (ae_var 0) (aa_cons (ae_2 r_add (ae_1 r_len (ae_var 1)) (ae_c fun _ _ => .int _)) aa_nil))))) (ae_lst (aa_cons (ae_fz 4) aa_nil))) (ae_var 1)))) as_nil)
  (as_cons (as_if (at_v (ae_2 r_eq (ae_var 2) (ae_c fun _ _ => .int _))) (as_cons (as_set 5 (ae_lc (ai_seq (ae_sl (ae_c fun _ _ => .str _) ao_none (ao_some (ae_2 r_sub (ae_2 r_ix (ae_lst (aa_cons (ae_c fun _ _ => .int _) (aa_cons (ae_c fun _ _ => .int _) aa_nil))) (ae_call Cm.sim_law_take (aa_cons (ae_var 0) (aa_cons (ae_c fun _ _ => .int _) aa_nil)))) (ae_1 r_len (ae_var 1)))))) (ag_n 6) (tg_n 6) at_ys (ae_k (ae_2 r_add (ae_2 r_add (ae_c fun _ _ => .str _) (ae_var 6)) (ae_c fun _ _ => .str _)))))
  (as_ret (ae_if (at_v (ae_2 r_eq (ae_call Cm.sim_law_take (aa_cons (ae_var 0) (aa_cons (ae_c fun _ _ => .int _) aa_nil))) (ae_c fun _ _ => .int _))) (ae_k (ae_2 r_add (ae_var 1) (ae_var 5))) (ae_k (ae_2 r_add (ae_var 5) (ae_var 1)))))) as_nil)
  (as_ret (ae_2 r_ix (ae_lst (aa_cons (ae_k (ae_lst aa_nil)) (aa_cons (ae_k (ae_sl (ae_var 1) (ao_some (ae_var 3)) ao_none)) (aa_cons (ae_k (ae_2 r_add (ae_var 1) (ae_var 1))) (aa_cons (ae_k (ae_lc (ai_seq (ae_var 1)) (ag_n 7) (tg_n 7) at_ys (ae_k (ae_call sim_law_bent_text (aa_cons (ae_var 0) (aa_cons (ae_var 7) aa_nil)))))) aa_nil))))) (ae_call Cm.sim_law_take (aa_cons (ae_var 0) (aa_cons (ae_c fun _ _ => .int _) aa_nil))))))))))
def m_law_name : Fd := runD 2 (sRet (eAnd (e3 vLe vLe (eC (.int 1)) (eA (v1 vLen) (aCons (eVar 0) aNil)) (eC (.int 8))) (e2 vEq (eA (v1 vLen) (aCons (eLc [1] (iSeq (eVar 0)) (gN 1) (tV (e2 vNotIn (eVar 1) (eC (.str (Str.ofString "abcdefghijklmnopqrstuvwxyz"))))) (eVar 1)) aNil)) (eC (.int 0)))))
theorem sim_law_name : AD none m_law_name p_law_name := ad_run (as_ret (ae_and (ae_3 r_le r_le (ae_c fun _ _ => .int _) (ae_1 r_len (ae_var 0)) (ae_c fun _ _ => .int _)) (ae_2 r_eq (ae_1 r_len (ae_lc (ai_seq (ae_var 0)) (ag_n 1) (tg_n 1) (at_v (ae_2 r_notIn (ae_var 1) (ae_c fun _ _ => .str _))) (ae_fz 1))) (ae_c fun _ _ => .int _))))
def m_law_row : Fd := runD 3 (sCons (sAsg (e2 vSplit (eVar 0) (eC (.str (Str.ofString " ")))) (gN 1))
    (sCons (sIf (tO (tN (tV (e3 vLe vLe (eC (.int 3)) (eA (v1 vLen) (aCons (eVar 1) aNil)) (eC (.int 6))))) (tO (tV (e2 vNe (e2 vIx (eVar 1) (eC (.int 1))) (eC (.str (Str.ofString "="))))) (tN (tV (eA m_law_name (aCons (e2 vIx (eVar 1) (eC (.int 0))) aNil)))))) (sRet (eC .non)) sNil)
    (sCons (sFor (iSeq (eSl (eVar 1) (oSome (eC (.int 2))) oNone)) (gN 2) (sIf (tO (tV (e2 vNotIn (eSl (eVar 2) oNone (oSome (eC (.int 1)))) (eA mkL (aCons (eC (.str (Str.ofString "+"))) (aCons (eC (.str (Str.ofString "-"))) aNil))))) (tN (tV (eA m_law_name (aCons (eSl (eVar 2) (oSome (eC (.int 1))) oNone) aNil))))) (sRet (eC .non)) sNil))
    (sRet (eA mkT (aCons (e2 vIx (eVar 1) (eC (.int 0))) (aCons (eA (v1 vTuple) (aCons (eLc [2] (iSeq (eSl (eVar 1) (oSome (eC (.int 2))) oNone)) (gN 2) tYs (eA mkT (aCons (eSl (eVar 2) (oSome (eC (.int 1))) oNone) (aCons (eSl (eVar 2) oNone (oSome (eC (.int 1)))) aNil)))) aNil)) aNil)))))))
theorem sim_law_row : AD none m_law_row p_law_row := ad_run (as_cons (as_set 1 (ae_2 r_split (ae_var 0) (ae_c fun _ _ => .str _)))
  (as_cons (as_if (at_or (at_not (at_v (ae_3 r_le r_le (ae_c fun _ _ => .int _) (ae_1 r_len (ae_var 1)) (ae_c fun _ _ => .int _)))) (at_or (at_v (ae_2 r_ne (ae_2 r_ix (ae_var 1) (ae_c fun _ _ => .int _)) (ae_c fun _ _ => .str _))) (at_not (at_v (ae_call sim_law_name (aa_cons (ae_2 r_ix (ae_var 1) (ae_c fun _ _ => .int _)) aa_nil)))))) (as_ret (ae_c fun _ _ => .non)) as_nil)
  (as_cons (as_for (ai_seq (ae_sl (ae_var 1) (ao_some (ae_c fun _ _ => .int _)) ao_none)) (ag_n 2) (as_if (at_or (at_v (ae_2 r_notIn (ae_sl (ae_var 2) ao_none (ao_some (ae_c fun _ _ => .int _))) (ae_lst (aa_cons (ae_c fun _ _ => .str _) (aa_cons (ae_c fun _ _ => .str _) aa_nil))))) (at_not (at_v (ae_call sim_law_name (aa_cons (ae_sl (ae_var 2) (ao_some (ae_c fun _ _ => .int _)) ao_none) aa_nil))))) (as_ret (ae_c fun _ _ => .non)) as_nil))
  (as_ret (ae_tup (aa_cons (ae_2 r_ix (ae_var 1) (ae_c fun _ _ => .int _)) (aa_cons (ae_k (ae_1 r_tuple (ae_lc (ai_seq (ae_sl (ae_var 1) (ao_some (ae_c fun _ _ => .int _)) ao_none)) (ag_n 2) (tg_n 2) at_ys (ae_tup (aa_cons (ae_k (ae_sl (ae_var 2) (ao_some (ae_c fun _ _ => .int _)) ao_none)) (aa_cons (ae_k (ae_sl (ae_var 2) ao_none (ao_some (ae_c fun _ _ => .int _)))) aa_nil)))))) aa_nil)))))))
def m_law_due : Fd := runD 8 (sCons (sAsg (eLc [5] (iSeq (eVar 0)) (gN 5) tYs (eA m_law_row (aCons (eVar 5) aNil))) (gN 1))
    (sCons (sAsg (eLc [6] (iRange1 (eA (v1 vLen) (aCons (eVar 1) aNil))) (gN 6) (tV (e2 vIs (e2 vIx (eVar 1) (eVar 6)) (eC .non))) (eVar 6)) (gN 2))
    (sCons (sIf (tV (e2 vNe (eVar 2) (eA mkL aNil))) (sRet (eA mkT (aCons (eC .non) (aCons (eC (.int 0)) (aCons (e2 vIx (eVar 2) (eC (.int 0))) aNil))))) sNil)
    (sCons (sAsg (eLc [7] (iSeq (eVar 1)) (gN 7) tYs (e2 vIx (eVar 7) (eC (.int 0)))) (gN 3))
    (sCons (sAsg (eLc [6] (iRange1 (eA (v1 vLen) (aCons (eVar 1) aNil))) (gN 6) (tV (e2 vIn (e2 vIx (eVar 3) (eVar 6)) (eSl (eVar 3) oNone (oSome (eVar 6))))) (eVar 6)) (gN 4))
    (sCons (sIf (tV (e2 vNe (eVar 4) (eA mkL aNil))) (sRet (eA mkT (aCons (eC .non) (aCons (eC (.int 1)) (aCons (e2 vIx (eVar 3) (e2 vIx (eVar 4) (eC (.int 0)))) aNil))))) sNil)
    (sCons (sIf (tN (tV (e3 vLe vLe (eC (.int 1)) (eA (v1 vLen) (aCons (eVar 1) aNil)) (eC (.int 8))))) (sRet (eA mkT (aCons (eC .non) (aCons (eC (.int 2)) (aCons (eC .non) aNil))))) sNil)
    (sRet (eA mkT (aCons (eA (v1 vTuple) (aCons (eA (v1 vSortedX) (aCons (eVar 1) aNil)) aNil)) (aCons (eC .non) (aCons (eC .non) aNil))))))))))))
theorem sim_law_due : AD none m_law_due p_law_due := ad_run (as_cons (as_set 1 (ae_lc (ai_seq (ae_var 0)) (ag_n 5) (tg_n 5) at_ys (ae_k (ae_call sim_law_row (aa_cons (ae_var 5) aa_nil)))))
  (as_cons (as_set 2 (ae_lc (ai_r1 (ae_1 r_len (ae_var 1))) (ag_n 6) (tg_n 6) (at_v (ae_2 r_is (ae_2 r_ix (ae_var 1) (ae_var 6)) (ae_c fun _ _ => .non))) (ae_fz 6)))
  (as_cons (as_if (at_v (ae_2 r_ne (ae_var 2) (ae_lst aa_nil))) (as_ret (ae_tup (aa_cons (ae_c fun _ _ => .non) (aa_cons (ae_c fun _ _ => .int _) (aa_cons (ae_2 r_ix (ae_var 2) (ae_c fun _ _ => .int _)) aa_nil))))) as_nil)
  (as_cons (as_set 3 (ae_lc (ai_seq (ae_var 1)) (ag_n 7) (tg_n 7) at_ys (ae_2 r_ix (ae_var 7) (ae_c fun _ _ => .int _))))
  (as_cons (as_set 4 (ae_lc (ai_r1 (ae_1 r_len (ae_var 1))) (ag_n 6) (tg_n 6) (at_v (ae_2 r_in (ae_2 r_ix (ae_var 3) (ae_var 6)) (ae_sl (ae_var 3) ao_none (ao_some (ae_var 6))))) (ae_fz 6)))
  (as_cons (as_if (at_v (ae_2 r_ne (ae_var 4) (ae_lst aa_nil))) (as_ret (ae_tup (aa_cons (ae_c fun _ _ => .non) (aa_cons (ae_c fun _ _ => .int _) (aa_cons (ae_2 r_ix (ae_var 3) (ae_2 r_ix (ae_var 4) (ae_c fun _ _ => .int _))) aa_nil))))) as_nil)
  (as_cons (as_if (at_not (at_v (ae_3 r_le r_le (ae_c fun _ _ => .int _) (ae_1 r_len (ae_var 1)) (ae_c fun _ _ => .int _)))) (as_ret (ae_tup (aa_cons (ae_c fun _ _ => .non) (aa_cons (ae_c fun _ _ => .int _) (aa_cons (ae_c fun _ _ => .non) aa_nil))))) as_nil)
  (as_ret (ae_tup (aa_cons (ae_k (ae_1 r_tuple (ae_1 r_sortedX (ae_var 1)))) (aa_cons (ae_c fun _ _ => .non) (aa_cons (ae_c fun _ _ => .non) aa_nil))))))))))))
def m_law : Fd := runD 15 (sCons (sFor (iRange3 (eC (.int 0)) (eA vMax (aCons (eC (.int 1)) (aCons (eA (v1 vLen) (aCons (eVar 0) aNil)) aNil))) (eC (.int 2))) (gN 1) (sCons (sAsg (eA Cm.m_law_digits (aCons (eVar 0) (aCons (eVar 1) aNil))) (gN 2))
    (sCons (sAsg (eA Cm.m_law_stock (aCons (eVar 2) aNil)) (gN 3))
    (sCons (sFor (iSeq (eVar 3)) (gN 4) (sCons (sAsg (eA m_show_kind (aCons (e2 vIx (eVar 4) (eC (.int 0))) (aCons (e2 vIx (eVar 4) (eC (.int 1))) aNil))) (gN 8))
    (sIf (tO (tN (tV (eIsi "str" (eVar 8)))) (tV (e2 vNe (eVar 8) (eA m_law_text (aCons (eVar 4) aNil))))) (sRet (eC (.bl false))) sNil)))
    (sCons (sAsg (eLc [11] (iSeq (eA Cm.m_law_order (aCons (eVar 2) (aCons (eA (v1 vLen) (aCons (eVar 3) aNil)) aNil)))) (gN 11) tYs (eA m_law_text (aCons (e2 vIx (eVar 3) (eVar 11)) aNil))) (gN 5))
    (sCons (sAsg (eA m_law_bent (aCons (eA Cm.m_law_digits (aCons (eVar 0) (aCons (e2 vAdd (eVar 1) (eC (.int 1))) aNil))) (aCons (eVar 5) aNil))) (gN 6))
    (sFor (iSeq (eA mkL (aCons (eVar 5) (aCons (eVar 6) aNil)))) (gN 7) (sCons (sAsg (eA (v1 vList) (aCons (eVar 7) aNil)) (gN 9))
    (sCons (sAsg (eA m_law_due (aCons (eVar 7) aNil)) (gT 3 (gsCons (gN 12) (gsCons (gN 13) (gsCons (gN 14) gsNil)))))
    (sCons (sAsg (eNx (eA m_law_asked (aCons (eVar 9) aNil))) (gN 8))
    (sCons (sAsg (eIf (tV (e2 vIsNot (eVar 13) (eC .non))) (e2 vAdd (eLc [11] (iRange1 (eC (.int 9))) (gN 11) tYs (e2 vEq (eVar 11) (eVar 13))) (eA mkL (aCons (eC (.bl true)) aNil))) (eA mkL aNil)) (gN 10))
    (sIf (tO (tV (e2 vNe (eVar 8) (eA mkT (aCons (eVar 12) (aCons (eVar 10) (aCons (eVar 14) aNil)))))) (tO (tV (eIsi "bool" (e2 vIx (eVar 8) (eC (.int 2))))) (tV (e2 vNe (eVar 9) (eVar 7))))) (sRet (eC (.bl false))) sNil))))))))))))
    (sRet (eC (.bl true))))
theorem sim_law : AD none m_law p_law := ad_run (as_cons (as_for (ai_r3 (ae_c fun _ _ => .int _) (ae_max (ae_c fun _ _ => .int _) (ae_1 r_len (ae_var 0))) (ae_c fun _ _ => .int _)) (ag_n 1) (as_cons (as_set 2 (ae_call Cm.sim_law_digits (aa_cons (ae_var 0) (aa_cons (ae_var 1) aa_nil))))
  (as_cons (as_set 3 (ae_call Cm.sim_law_stock (aa_cons (ae_var 2) aa_nil)))
  (as_cons (as_for (ai_seq (ae_var 3)) (ag_n 4) (as_cons (as_set 8 (ae_call sim_show_kind (aa_cons (ae_2 r_ix (ae_var 4) (ae_c fun _ _ => .int _)) (aa_cons (ae_2 r_ix (ae_var 4) (ae_c fun _ _ => .int _)) aa_nil))))
  (as_if (at_or (at_not (at_v (ae_isi (ae_var 8)))) (at_v (ae_2 r_ne (ae_var 8) (ae_call sim_law_text (aa_cons (ae_var 4) aa_nil))))) (as_ret (ae_c fun _ _ => .bl _)) as_nil)))
  (as_cons (as_set 5 (ae_lc (ai_seq (ae_call Cm.sim_law_order (aa_cons (ae_var 2) (aa_cons (ae_1 r_len (ae_var 3)) aa_nil)))) (ag_n 11) (tg_n 11) at_ys (ae_k (ae_call sim_law_text (aa_cons (ae_2 r_ix (ae_var 3) (ae_var 11)) aa_nil)))))
  (as_cons (as_set 6 (ae_callT sim_law_bent (aa_cons (ae_call Cm.sim_law_digits (aa_cons (ae_var 0) (aa_cons (ae_2 r_add (ae_var 1) (ae_c fun _ _ => .int _)) aa_nil))) (aa_cons (ae_var 5) aa_nil))))
  (as_for (ai_seq (ae_lst (aa_cons (ae_fz 5) (aa_cons (ae_fz 6) aa_nil)))) (ag_n 7) (as_cons (as_set 9 (ae_1 r_list (ae_var 7)))
  (as_cons (as_asg (ae_k (ae_call sim_law_due (aa_cons (ae_var 7) aa_nil))) (ag_t (ags_cons (ag_n 12) (ags_cons (ag_n 13) (ags_cons (ag_n 14) ags_nil)))))
  (as_cons (as_set 8 (ae_nx (ae_call sim_law_asked (aa_cons (ae_var 9) aa_nil))))
  (as_cons (as_set 10 (ae_if (at_v (ae_2 r_isNot (ae_var 13) (ae_c fun _ _ => .non))) (ae_k (ae_2 r_add (ae_lc (ai_r1 (ae_c fun _ _ => .int _)) (ag_n 11) (tg_n 11) at_ys (ae_2 r_eq (ae_var 11) (ae_var 13))) (ae_lst (aa_cons (ae_c fun _ _ => .bl _) aa_nil)))) (ae_k (ae_lst aa_nil))))
  (as_if (at_or (at_v (ae_2 r_ne (ae_var 8) (ae_tup (aa_cons (ae_fz 12) (aa_cons (ae_fz 10) (aa_cons (ae_fz 14) aa_nil)))))) (at_or (at_v (ae_isi (ae_2 r_ix (ae_var 8) (ae_c fun _ _ => .int _)))) (at_v (ae_2 r_ne (ae_var 9) (ae_var 7))))) (as_ret (ae_c fun _ _ => .bl _)) as_nil))))))))))))
  (as_ret (ae_c fun _ _ => .bl _)))
end K06
namespace K06
open PySem PySem.Spec PyProof.Rows L2 NdefX GenE Sh Pu
open GxR (TabB TabG Tabbed)
theorem sc_is_tuple : FnScope ["thing", "many"] ["thing", "many"] (defScope s_is_tuple) := ⟨rfl, rfl, rfl, by decide +kernel, rfl, by decide +kernel, by decide +kernel⟩
theorem sc_rises : FnScope ["things"] ["things"] (defScope s_rises) := ⟨rfl, rfl, rfl, by decide +kernel, rfl, by decide +kernel, by decide +kernel⟩
theorem sc_is_spelled : FnScope ["text", "signs", "most"] ["text", "signs", "most"] (defScope s_is_spelled) := ⟨rfl, rfl, rfl, by decide +kernel, rfl, by decide +kernel, by decide +kernel⟩
theorem sc_is_name : FnScope ["thing"] ["thing"] (defScope s_is_name) := ⟨rfl, rfl, rfl, by decide +kernel, rfl, by decide +kernel, by decide +kernel⟩
theorem sc_is_spec : FnScope ["thing"] ["thing"] (defScope s_is_spec) := ⟨rfl, rfl, rfl, by decide +kernel, rfl, by decide +kernel, by decide +kernel⟩
theorem sc_are_specs : FnScope ["thing"] ["thing"] (defScope s_are_specs) := ⟨rfl, rfl, rfl, by decide +kernel, rfl, by decide +kernel, by decide +kernel⟩
theorem sc_is_entry : FnScope ["thing", "kind", "ports"] ["thing"] (defScope s_is_entry) := ⟨rfl, rfl, rfl, by decide +kernel, rfl, by decide +kernel, by decide +kernel⟩
theorem sc_is_stock : FnScope ["thing", "entry"] ["thing"] (defScope s_is_stock) := ⟨rfl, rfl, rfl, by decide +kernel, rfl, by decide +kernel, by decide +kernel⟩
theorem sc_show_spec : FnScope ["spec", "sort", "side"] ["spec"] (defScope s_show_spec) := ⟨rfl, rfl, rfl, by decide +kernel, rfl, by decide +kernel, by decide +kernel⟩
theorem sc_read_spec : FnScope ["word"] ["word"] (defScope s_read_spec) := ⟨rfl, rfl, rfl, by decide +kernel, rfl, by decide +kernel, by decide +kernel⟩
theorem sc_show_kind : FnScope ["kind", "ports", "spec"] ["kind", "ports"] (defScope s_show_kind) := ⟨rfl, rfl, rfl, by decide +kernel, rfl, by decide +kernel, by decide +kernel⟩
theorem sc_read_kind : FnScope ["text", "words", "entry"] ["text"] (defScope s_read_kind) := ⟨rfl, rfl, rfl, by decide +kernel, rfl, by decide +kernel, by decide +kernel⟩
theorem sc_read_stock : FnScope ["texts", "entries", "kinds", "stock", "at", "entry", "kind", "text"] ["texts"] (defScope s_read_stock) := ⟨rfl, rfl, rfl, by decide +kernel, rfl, by decide +kernel, by decide +kernel⟩
theorem sc_law_digits : FnScope ["_law_script", "_law_k", "_law_cell", "_law_total", "_law_number", "_law_turn"] ["_law_script", "_law_k"] (defScope s_law_digits) := ⟨rfl, rfl, rfl, by decide +kernel, rfl, by decide +kernel, by decide +kernel⟩
theorem sc_law_take : FnScope ["_law_held", "_law_many", "_law_found"] ["_law_held", "_law_many"] (defScope s_law_take) := ⟨rfl, rfl, rfl, by decide +kernel, rfl, by decide +kernel, by decide +kernel⟩
theorem sc_law_words : FnScope ["_law_held", "_law_many", "_law_letters", "_law_word", "_law_at", "_law_other", "_law_some", "_law_start", "_law_k"] ["_law_held", "_law_many"] (defScope s_law_words) := ⟨rfl, rfl, rfl, by decide +kernel, rfl, by decide +kernel, by decide +kernel⟩
theorem sc_law_stock : FnScope ["_law_held", "_law_pool", "_law_start", "_law_kinds_here", "_law_sorts", "_law_rows", "_law_k", "_law_ports", "_law_p"] ["_law_held"] (defScope s_law_stock) := ⟨rfl, rfl, rfl, by decide +kernel, rfl, by decide +kernel, by decide +kernel⟩
theorem sc_law_order : FnScope ["_law_held", "_law_many", "_law_left", "_law_found"] ["_law_held", "_law_many"] (defScope s_law_order) := ⟨rfl, rfl, rfl, by decide +kernel, rfl, by decide +kernel, by decide +kernel⟩
theorem sc_law_asked : FnScope ["_law_texts", "_law_found", "_law_kinds_here", "_law_field", "_law_e"] ["_law_texts"] (defScope s_law_asked) := ⟨rfl, rfl, rfl, by decide +kernel, rfl, by decide +kernel, by decide +kernel⟩
theorem sc_law_text : FnScope ["_law_row_here", "_law_spec"] ["_law_row_here"] (defScope s_law_text) := ⟨rfl, rfl, rfl, by decide +kernel, rfl, by decide +kernel, by decide +kernel⟩
theorem sc_law_bent_text : FnScope ["_law_held", "_law_text_here", "_law_odd", "_law_sign", "_law_at", "_law_words_here", "_law_place", "_law_word", "_law_some"] ["_law_held", "_law_text_here"] (defScope s_law_bent_text) := ⟨rfl, rfl, rfl, by decide +kernel, rfl, by decide +kernel, by decide +kernel⟩
theorem sc_law_bent : FnScope ["_law_held", "_law_texts", "_law_way", "_law_at", "_law_again", "_law_more", "_law_sign", "_law_text_here"] ["_law_held", "_law_texts"] (defScope s_law_bent) := ⟨rfl, rfl, rfl, by decide +kernel, rfl, by decide +kernel, by decide +kernel⟩
theorem sc_law_name : FnScope ["_law_word", "_law_sign"] ["_law_word"] (defScope s_law_name) := ⟨rfl, rfl, rfl, by decide +kernel, rfl, by decide +kernel, by decide +kernel⟩
theorem sc_law_row : FnScope ["_law_text_here", "_law_words_here", "_law_word"] ["_law_text_here"] (defScope s_law_row) := ⟨rfl, rfl, rfl, by decide +kernel, rfl, by decide +kernel, by decide +kernel⟩
theorem sc_law_due : FnScope ["_law_texts", "_law_rows", "_law_bad", "_law_kinds_here", "_law_again", "_law_text_here", "_law_k", "_law_row_here"] ["_law_texts"] (defScope s_law_due) := ⟨rfl, rfl, rfl, by decide +kernel, rfl, by decide +kernel, by decide +kernel⟩
theorem sc_law : FnScope ["_law_script", "_law_k", "_law_held", "_law_stock_here", "_law_row_here", "_law_texts", "_law_bent_here", "_law_some", "_law_told", "_law_handed", "_law_due_here", "_law_n", "_law_found", "_law_which", "_law_field"] ["_law_script"] (defScope s_law) := ⟨rfl, rfl, rfl, by decide +kernel, rfl, by decide +kernel, by decide +kernel⟩
/-- what the module holds -/
structure Mx (mg : Str -> Option Value) : Prop where
 b_ValueError : mg "ValueError" = none
 b_all : mg "all" = none
 b_bool : mg "bool" = none
 b_enumerate : mg "enumerate" = none
 b_isinstance : mg "isinstance" = none
 b_len : mg "len" = none
 b_list : mg "list" = none
 b_max : mg "max" = none
 b_range : mg "range" = none
 b_sorted : mg "sorted" = none
 b_str : mg "str" = none
 b_tuple : mg "tuple" = none
 c_LETTERS : ∃ t, mg "LETTERS" = some (.str (Str.ofString "abcdefghijklmnopqrstuvwxyz") t)
 c_NAME_MOST : ∃ t, mg "NAME_MOST" = some (.int (8) t)
 c_KINDS_MOST : ∃ t, mg "KINDS_MOST" = some (.int (8) t)
 c_PORTS_MOST : ∃ t, mg "PORTS_MOST" = some (.int (4) t)
abbrev LkF (K : PySem.W.Frag) (f : Addr) (oc : Value) (od : Option Addr) (kV doc pm : Value) (an : Option Addr) (cdv ct : Value) (osl : Array (Option Value)) (x : Str) (st : Stmt) : Prop := K.lookup f = some ⟨oc, od, .func (PySem.W.fnOf x x (defArgs st) (defBody st) (defScope st) .none kV doc pm an cdv ct), osl⟩
abbrev CdF (K : PySem.W.Frag) (cdv : Value) (x : Str) : Prop := PySem.W.codeIn K cdv x = true
abbrev KpF (K : PySem.W.Frag) (f : Addr) : Prop := PySem.W.keepIn K (.ref f) = true
abbrev GtF (mg : Str -> Option Value) (x : Str) (f : Addr) : Prop := mg x = some (.ref f)
section
variable {P : Program} {w : World} {K : PySem.W.Frag} {mg : Str -> Option Value} {base : Heap} {T : Tb} {f : Addr} {oc : Value} {od : Option Addr} {kV doc pm : Value} {an : Option Addr} {cdv ct : Value} {osl : Array (Option Value)}
theorem ok_is_tuple (x : Mx mg) (hTw : T.w = w) (lk : LkF K f oc od kV doc pm an cdv ct osl "is_tuple" s_is_tuple) (hcd : CdF K cdv "is_tuple") (hk : KpF K f) (hg : GtF mg "is_tuple" f) :
  Dd P w K mg base T 1 "is_tuple" 2 m_is_tuple := by
 exact dd_of (k := 0) hTw lk hcd hk hg sc_is_tuple (fun _ _ _ _ _ _ us hl => match us, hl with | [_, _], _ => rfl) (ss_one (ss_ret (se_and (se_isi rfl x.b_isinstance rfl x.b_tuple (by decide +kernel) (se_var 0)) (se_one (se_cmp op2_eq (se_len rfl x.b_len (se_var 0)) (se_var 1))))))
theorem ok_rises {f : Addr} {oc : Value} {od : Option Addr} {kV doc pm : Value} {an : Option Addr} {ct : Value} {osl : Array (Option Value)} {c Pt : Addr} (TB : TabB base mg c Pt) (hT : Pt ∈ T) (x : Mx mg) (hTw : T.w = w)
  (lk : K.lookup f = some ⟨oc, od, .func (PySem.W.fnOf "rises" "rises" (defArgs s_rises) (defBody s_rises) (defScope s_rises) .none kV doc pm an (.ref c) ct), osl⟩) (hcd : PySem.W.codeIn K (.ref c) "rises" = true) (hk : PySem.W.keepIn K (.ref f) = true) (hg : mg "rises" = some (.ref f)) :
  Dd P w K mg base T 2 "rises" 1 m_rises := by
 exact dd_of (k := 1) hTw lk hcd hk hg sc_rises (fun _ _ _ _ _ _ us hl => match us, hl with | [_], _ => rfl) (ss_one (ss_ret (se_allG (own := ["at"]) (fr := ["things"]) (js := [0]) (N0 := ["things"]) (sc0 := (defScope s_rises)) rfl rfl rfl x.b_all rfl rfl TB hT (by decide +kernel) (si_range1 rfl x.b_range (se_bin op2_sub (se_len rfl x.b_len (se_var 0)) se_int)) (sg_name 0 (show (["at", "things"] : List Str).Nodup by decide +kernel)) sts_nil (se_cmp op2_ltD (se_ix (se_var 1) (se_var 0)) (se_ix (se_var 1) (se_bin op2_add (se_var 0) se_int))))))
theorem ok_is_spelled {f : Addr} {oc : Value} {od : Option Addr} {kV doc pm : Value} {an : Option Addr} {ct : Value} {osl : Array (Option Value)} {c Pt : Addr} (TB : TabB base mg c Pt) (hT : Pt ∈ T) (x : Mx mg) (hTw : T.w = w)
  (lk : K.lookup f = some ⟨oc, od, .func (PySem.W.fnOf "is_spelled" "is_spelled" (defArgs s_is_spelled) (defBody s_is_spelled) (defScope s_is_spelled) .none kV doc pm an (.ref c) ct), osl⟩) (hcd : PySem.W.codeIn K (.ref c) "is_spelled" = true) (hk : PySem.W.keepIn K (.ref f) = true) (hg : mg "is_spelled" = some (.ref f)) :
  Dd P w K mg base T 2 "is_spelled" 3 m_is_spelled := by
 exact dd_of (k := 1) hTw lk hcd hk hg sc_is_spelled (fun _ _ _ _ _ _ us hl => match us, hl with | [_, _, _], _ => rfl) (ss_one (ss_ret (se_and (se_chain op2_le op2_le se_int (se_len rfl x.b_len (se_var 0)) (se_var 2)) (se_one (se_allG (own := ["sign"]) (fr := ["signs"]) (js := [1]) (N0 := ["text", "signs", "most"]) (sc0 := (defScope s_is_spelled)) rfl rfl rfl x.b_all rfl rfl TB hT (by decide +kernel) (si_seq (se_var 0)) (sg_name 0 (show (["sign", "signs"] : List Str).Nodup by decide +kernel)) sts_nil (se_cmp op2_in (se_var 0) (se_var 1)))))))
theorem ok_is_name (x : Mx mg) (hTw : T.w = w) (lk : LkF K f oc od kV doc pm an cdv ct osl "is_name" s_is_name) (hcd : CdF K cdv "is_name") (hk : KpF K f) (hg : GtF mg "is_name" f) (D_is_spelled : Dd P w K mg base T 2 "is_spelled" 3 m_is_spelled) :
  Dd P w K mg base T 3 "is_name" 1 m_is_name := by
 obtain ⟨_, hc_LETTERS⟩ := x.c_LETTERS
 obtain ⟨_, hc_NAME_MOST⟩ := x.c_NAME_MOST
 exact dd_of (k := 2) hTw lk hcd hk hg sc_is_name (fun _ _ _ _ _ _ us hl => match us, hl with | [_], _ => rfl) (ss_one (ss_ret (se_and (se_isi rfl x.b_isinstance rfl x.b_str (by decide +kernel) (se_var 0)) (se_one (se_call D_is_spelled (Nat.le_of_ble_eq_true rfl) rfl (sa_cons (se_var 0) (sa_cons (se_globS rfl hc_LETTERS ⟨_, rfl⟩) (sa_cons (se_globI rfl hc_NAME_MOST ⟨_, rfl⟩) sa_nil))))))))
theorem ok_is_spec (x : Mx mg) (hTw : T.w = w) (lk : LkF K f oc od kV doc pm an cdv ct osl "is_spec" s_is_spec) (hcd : CdF K cdv "is_spec") (hk : KpF K f) (hg : GtF mg "is_spec" f) (D_is_tuple : Dd P w K mg base T 1 "is_tuple" 2 m_is_tuple) (D_is_name : Dd P w K mg base T 3 "is_name" 1 m_is_name) :
  Dd P w K mg base T 4 "is_spec" 1 m_is_spec := by
 exact dd_of (k := 3) hTw lk hcd hk hg sc_is_spec (fun _ _ _ _ _ _ us hl => match us, hl with | [_], _ => rfl) (ss_one (ss_ret (se_and (se_call D_is_tuple (Nat.le_of_ble_eq_true rfl) rfl (sa_cons (se_var 0) (sa_cons se_int sa_nil))) (se_and (se_call D_is_name (Nat.le_of_ble_eq_true rfl) rfl (sa_cons (se_ix (se_var 0) se_int) sa_nil)) (se_one (se_cmp op2_in (se_ix (se_var 0) se_int) (se_tup (sa_cons se_str (sa_cons se_str sa_nil)))))))))
theorem ok_are_specs {f : Addr} {oc : Value} {od : Option Addr} {kV doc pm : Value} {an : Option Addr} {ct : Value} {osl : Array (Option Value)} {c Pt : Addr} (TB : TabB base mg c Pt) (hT : Pt ∈ T) (x : Mx mg) (hTw : T.w = w)
  (lk : K.lookup f = some ⟨oc, od, .func (PySem.W.fnOf "are_specs" "are_specs" (defArgs s_are_specs) (defBody s_are_specs) (defScope s_are_specs) .none kV doc pm an (.ref c) ct), osl⟩) (hcd : PySem.W.codeIn K (.ref c) "are_specs" = true) (hk : PySem.W.keepIn K (.ref f) = true) (hg : mg "are_specs" = some (.ref f)) (D_is_spec : Dd P w K mg base T 4 "is_spec" 1 m_is_spec) :
  Dd P w K mg base T 6 "are_specs" 1 m_are_specs := by
 exact dd_of (k := 5) hTw lk hcd hk hg sc_are_specs (fun _ _ _ _ _ _ us hl => match us, hl with | [_], _ => rfl) (ss_one (ss_ret (se_and (se_isi rfl x.b_isinstance rfl x.b_tuple (by decide +kernel) (se_var 0)) (se_one (se_allG (own := ["spec"]) (fr := []) (js := []) (N0 := ["thing"]) (sc0 := (defScope s_are_specs)) rfl rfl rfl x.b_all rfl rfl TB hT (by decide +kernel) (si_seq (se_var 0)) (sg_name 0 (show (["spec"] : List Str).Nodup by decide +kernel)) sts_nil (se_call D_is_spec (Nat.le_of_ble_eq_true rfl) rfl (sa_cons (se_var 0) sa_nil)))))))
theorem ok_is_entry (x : Mx mg) (hTw : T.w = w) (lk : LkF K f oc od kV doc pm an cdv ct osl "is_entry" s_is_entry) (hcd : CdF K cdv "is_entry") (hk : KpF K f) (hg : GtF mg "is_entry" f) (D_is_tuple : Dd P w K mg base T 1 "is_tuple" 2 m_is_tuple) (D_is_name : Dd P w K mg base T 3 "is_name" 1 m_is_name) (D_are_specs : Dd P w K mg base T 6 "are_specs" 1 m_are_specs) :
  Dd P w K mg base T 7 "is_entry" 1 m_is_entry := by
 obtain ⟨_, hc_PORTS_MOST⟩ := x.c_PORTS_MOST
 exact dd_of (k := 6) hTw lk hcd hk hg sc_is_entry (fun _ _ _ _ _ _ us hl => match us, hl with | [_], _ => rfl) (ss_cons (ss_if (st_not (st_val (se_call D_is_tuple (Nat.le_of_ble_eq_true rfl) rfl (sa_cons (se_var 0) (sa_cons se_int sa_nil))))) (ss_one (ss_ret se_bl)) ss_nil)
  (ss_cons (ss_asg (se_var 0) (sg_tup (sgs_cons (sg_name 1 sc_is_entry.nd) (sgs_cons (sg_name 2 sc_is_entry.nd) sgs_nil))))
  (ss_one (ss_ret (se_and (se_call D_is_name (Nat.le_of_ble_eq_true rfl) rfl (sa_cons (se_var 1) sa_nil)) (se_and (se_call D_are_specs (Nat.le_of_ble_eq_true rfl) rfl (sa_cons (se_var 2) sa_nil)) (se_one (se_chain op2_le op2_le se_int (se_len rfl x.b_len (se_var 2)) (se_globI rfl hc_PORTS_MOST ⟨_, rfl⟩)))))))))
theorem ok_is_stock {f : Addr} {oc : Value} {od : Option Addr} {kV doc pm : Value} {an : Option Addr} {ct : Value} {osl : Array (Option Value)} {c Pt : Addr} (TB : TabB base mg c Pt) (hT : Pt ∈ T) (x : Mx mg) (hTw : T.w = w)
  (lk : K.lookup f = some ⟨oc, od, .func (PySem.W.fnOf "is_stock" "is_stock" (defArgs s_is_stock) (defBody s_is_stock) (defScope s_is_stock) .none kV doc pm an (.ref c) ct), osl⟩) (hcd : PySem.W.codeIn K (.ref c) "is_stock" = true) (hk : PySem.W.keepIn K (.ref f) = true) (hg : mg "is_stock" = some (.ref f)) (D_rises : Dd P w K mg base T 2 "rises" 1 m_rises) (D_is_entry : Dd P w K mg base T 7 "is_entry" 1 m_is_entry) :
  Dd P w K mg base T 9 "is_stock" 1 m_is_stock := by
 obtain ⟨_, hc_KINDS_MOST⟩ := x.c_KINDS_MOST
 exact dd_of (k := 8) hTw lk hcd hk hg sc_is_stock (fun _ _ _ _ _ _ us hl => match us, hl with | [_], _ => rfl) (ss_cons (ss_if (SW.st (sw_or (st_not (st_val (se_isi rfl x.b_isinstance rfl x.b_tuple (by decide +kernel) (se_var 0)))) (sw_or1 (st_not (st_chain op2_le op2_le se_int (se_len rfl x.b_len (se_var 0)) (se_globI rfl hc_KINDS_MOST ⟨_, rfl⟩)))))) (ss_one (ss_ret se_bl)) ss_nil)
  (ss_cons (ss_if (st_not (st_val (se_allG (own := ["entry"]) (fr := []) (js := []) (N0 := ["thing", "entry"]) (sc0 := (defScope s_is_stock)) rfl rfl rfl x.b_all rfl rfl TB hT (by decide +kernel) (si_seq (se_var 0)) (sg_name 0 (show (["entry"] : List Str).Nodup by decide +kernel)) sts_nil (se_call D_is_entry (Nat.le_of_ble_eq_true rfl) rfl (sa_cons (se_var 0) sa_nil))))) (ss_one (ss_ret se_bl)) ss_nil)
  (ss_one (ss_ret (se_call D_rises (Nat.le_of_ble_eq_true rfl) rfl (sa_cons (se_lc (own := [("entry", 1)]) (N0 := ["thing", "entry"]) (sc0 := (defScope s_is_stock)) sc_is_stock.nd rfl rfl (si_seq (se_var 0)) (by decide +kernel) (sg_name 1 sc_is_stock.nd) sts_nil (se_ix (se_var 1) se_int)) sa_nil))))))
theorem ok_show_spec (x : Mx mg) (hTw : T.w = w) (lk : LkF K f oc od kV doc pm an cdv ct osl "show_spec" s_show_spec) (hcd : CdF K cdv "show_spec") (hk : KpF K f) (hg : GtF mg "show_spec" f) :
  Dd P w K mg base T 1 "show_spec" 1 m_show_spec := by
 exact dd_of (k := 0) hTw lk hcd hk hg sc_show_spec (fun _ _ _ _ _ _ us hl => match us, hl with | [_], _ => rfl) (ss_cons (ss_asg (se_var 0) (sg_tup (sgs_cons (sg_name 1 sc_show_spec.nd) (sgs_cons (sg_name 2 sc_show_spec.nd) sgs_nil))))
  (ss_one (ss_ret (se_bin op2_add (se_var 2) (se_var 1)))))
theorem ok_read_spec (x : Mx mg) (hTw : T.w = w) (lk : LkF K f oc od kV doc pm an cdv ct osl "read_spec" s_read_spec) (hcd : CdF K cdv "read_spec") (hk : KpF K f) (hg : GtF mg "read_spec" f) :
  Dd P w K mg base T 1 "read_spec" 1 m_read_spec := by
 exact dd_of (k := 0) hTw lk hcd hk hg sc_read_spec (fun _ _ _ _ _ _ us hl => match us, hl with | [_], _ => rfl) (ss_one (ss_ret (se_tup (sa_cons (se_slice (se_var 0) (so_some se_int) so_none) (sa_cons (se_slice (se_var 0) so_none (so_some se_int)) sa_nil)))))
theorem ok_show_kind (x : Mx mg) (hTw : T.w = w) (lk : LkF K f oc od kV doc pm an cdv ct osl "show_kind" s_show_kind) (hcd : CdF K cdv "show_kind") (hk : KpF K f) (hg : GtF mg "show_kind" f) (D_show_spec : Dd P w K mg base T 1 "show_spec" 1 m_show_spec) :
  Dd P w K mg base T 2 "show_kind" 2 m_show_kind := by
 exact dd_of (k := 1) hTw lk hcd hk hg sc_show_kind (fun _ _ _ _ _ _ us hl => match us, hl with | [_, _], _ => rfl) (ss_one (ss_ret (se_join se_str (se_bin op2_add (se_lst (sa_cons (se_var 0) (sa_cons se_str sa_nil))) (se_lc (own := [("spec", 2)]) (N0 := ["kind", "ports", "spec"]) (sc0 := (defScope s_show_kind)) sc_show_kind.nd rfl rfl (si_seq (se_var 1)) (by decide +kernel) (sg_name 2 sc_show_kind.nd) sts_nil (se_call D_show_spec (Nat.le_of_ble_eq_true rfl) rfl (sa_cons (se_var 2) sa_nil)))))))
theorem ok_read_kind {f : Addr} {oc : Value} {od : Option Addr} {kV doc pm : Value} {an : Option Addr} {ct : Value} {osl : Array (Option Value)} {c Pt : Addr} (TB : TabB base mg c Pt) (hT : Pt ∈ T) (x : Mx mg) (hTw : T.w = w)
  (lk : K.lookup f = some ⟨oc, od, .func (PySem.W.fnOf "read_kind" "read_kind" (defArgs s_read_kind) (defBody s_read_kind) (defScope s_read_kind) .none kV doc pm an (.ref c) ct), osl⟩) (hcd : PySem.W.codeIn K (.ref c) "read_kind" = true) (hk : PySem.W.keepIn K (.ref f) = true) (hg : mg "read_kind" = some (.ref f)) (D_is_entry : Dd P w K mg base T 7 "is_entry" 1 m_is_entry) (D_read_spec : Dd P w K mg base T 1 "read_spec" 1 m_read_spec) :
  Dd P w K mg base T 8 "read_kind" 1 m_read_kind := by
 exact dd_of (k := 7) hTw lk hcd hk hg sc_read_kind (fun _ _ _ _ _ _ us hl => match us, hl with | [_], _ => rfl) (ss_cons (ss_set 1 sc_read_kind.nd (se_split (se_var 0) se_str))
  (ss_cons (ss_set 2 sc_read_kind.nd (se_tup (sa_cons (se_ix (se_var 1) se_int) (sa_cons (se_tupG (own := ["word"]) (fr := []) (js := []) (N0 := ["text", "words", "entry"]) (sc0 := (defScope s_read_kind)) rfl rfl rfl x.b_tuple rfl rfl TB hT (by decide +kernel) (si_seq (se_slice (se_var 1) (so_some se_int) so_none)) (sg_name 0 (show (["word"] : List Str).Nodup by decide +kernel)) sts_nil (se_call D_read_spec (Nat.le_of_ble_eq_true rfl) rfl (sa_cons (se_var 0) sa_nil))) sa_nil))))
  (ss_one (ss_ret (se_if (SW.st (sw_and (st_cmp op2_eq (se_slice (se_var 1) (so_some se_int) (so_some se_int)) (se_lst (sa_cons se_str sa_nil))) (sw_and1 (st_val (se_call D_is_entry (Nat.le_of_ble_eq_true rfl) rfl (sa_cons (se_var 2) sa_nil)))))) (se_var 2) se_non)))))
theorem ok_read_stock (x : Mx mg) (hTw : T.w = w) (lk : LkF K f oc od kV doc pm an cdv ct osl "read_stock" s_read_stock) (hcd : CdF K cdv "read_stock") (hk : KpF K f) (hg : GtF mg "read_stock" f) (D_read_kind : Dd P w K mg base T 8 "read_kind" 1 m_read_kind) (D_is_stock : Dd P w K mg base T 9 "is_stock" 1 m_is_stock) (E_NoText : ExcF P w K mg base 1 "NoText" "at") (E_Twice : ExcF P w K mg base 1 "Twice" "name") (E_NoStock : ExcM K mg "NoStock") :
  DdX P w K mg base T 10 "read_stock" 1 m_read_stock := by
 exact ddx_of (k := 9) hTw lk hcd hk hg sc_read_stock (fun _ _ _ _ _ _ us hl => match us, hl with | [_], _ => rfl) (ssx_cons (ssx_of (ss_setLc (i := 1) (own := [("text", 7)]) (N0 := ["texts", "entries", "kinds", "stock", "at", "entry", "kind", "text"]) (sc0 := (defScope s_read_stock)) sc_read_stock.nd rfl rfl rfl (by decide +kernel) rfl rfl rfl (si_seq (se_var 0)) (by decide +kernel) (sg_name 7 sc_read_stock.nd) sts_nil (se_call D_read_kind (Nat.le_of_ble_eq_true rfl) rfl (sa_cons (se_var 7) sa_nil))))
  (ssx_cons (ssx_for (si_enum rfl x.b_enumerate (se_var 1)) (sg_tup (sgs_cons (sg_name 4 sc_read_stock.nd) (sgs_cons (sg_name 5 sc_read_stock.nd) sgs_nil))) (ssx_one (ssx_if (st_cmp op2_is (se_var 5) se_non) (ssx_one (ssx_raiseF E_NoText (Nat.le_of_ble_eq_true rfl) rfl (se_var 4))) ssx_nil)))
  (ssx_cons (ssx_of (ss_setLc (i := 2) (own := [("entry", 5)]) (N0 := ["texts", "entries", "kinds", "stock", "at", "entry", "kind", "text"]) (sc0 := (defScope s_read_stock)) sc_read_stock.nd rfl rfl rfl (by decide +kernel) rfl rfl rfl (si_seq (se_var 1)) (by decide +kernel) (sg_name 5 sc_read_stock.nd) sts_nil (se_ix (se_var 5) se_int)))
  (ssx_cons (ssx_for (si_enum rfl x.b_enumerate (se_var 2)) (sg_tup (sgs_cons (sg_name 4 sc_read_stock.nd) (sgs_cons (sg_name 6 sc_read_stock.nd) sgs_nil))) (ssx_one (ssx_if (st_cmp op2_in (se_var 6) (se_slice (se_var 2) so_none (so_some (se_var 4)))) (ssx_one (ssx_raiseF E_Twice (Nat.le_of_ble_eq_true rfl) rfl (se_var 6))) ssx_nil)))
  (ssx_cons (ssx_of (ss_set 3 sc_read_stock.nd (se_tuple rfl x.b_tuple (se_sortedX rfl x.b_sorted (se_var 1)))))
  (ssx_cons (ssx_if (st_not (st_val (se_call D_is_stock (Nat.le_of_ble_eq_true rfl) rfl (sa_cons (se_var 3) sa_nil)))) (ssx_one (ssx_raiseM E_NoStock rfl)) ssx_nil)
  (ssx_one (ssx_of (ss_ret (se_var 3))))))))))
theorem ok_law_digits (x : Mx mg) (hTw : T.w = w) (lk : LkF K f oc od kV doc pm an cdv ct osl "_law_digits" s_law_digits) (hcd : CdF K cdv "_law_digits") (hk : KpF K f) (hg : GtF mg "_law_digits" f) :
  Dd P w K mg base T 1 "_law_digits" 2 Cm.m_law_digits := by
 exact dd_of (k := 0) hTw lk hcd hk hg sc_law_digits (fun _ _ _ _ _ _ us hl => match us, hl with | [_, _], _ => rfl) (ss_cons (ss_set 2 sc_law_digits.nd (se_if (st_cmp op2_ltX (se_var 1) (se_len rfl x.b_len (se_var 0))) (se_ix (se_var 0) (se_var 1)) se_int))
  (ss_cons (ss_if (st_cmp op2_ge (se_var 2) (se_bin op2_pow se_int se_int)) (ss_one (ss_ret (se_lst (sa_cons (se_bin op2_sub (se_var 2) (se_bin op2_pow se_int se_int)) sa_nil)))) ss_nil)
  (ss_cons (ss_set 3 sc_law_digits.nd se_int)
  (ss_cons (ss_set 4 sc_law_digits.nd (se_bin op2_mod (se_bin op2_add (se_bin op2_add (se_bin op2_mul (se_var 2) se_int) (se_bin op2_mul se_int (se_var 1))) se_int) se_int))
  (ss_cons (ss_for (si_range1 rfl x.b_range se_int) (sg_name 5 sc_law_digits.nd) (ss_cons (ss_set 4 sc_law_digits.nd (se_bin op2_mod (se_bin op2_add (se_bin op2_add (se_bin op2_mul (se_var 4) (se_var 4)) (se_bin op2_mul se_int (se_var 4))) (se_var 5)) se_int))
  (ss_one (ss_set 3 sc_law_digits.nd (se_bin op2_add (se_bin op2_mul (se_var 3) se_int) (se_bin op2_mod (se_bin op2_mul (se_var 4) se_int) se_int))))))
  (ss_one (ss_ret (se_lst (sa_cons (se_var 3) sa_nil)))))))))
theorem ok_law_take (x : Mx mg) (hTw : T.w = w) (lk : LkF K f oc od kV doc pm an cdv ct osl "_law_take" s_law_take) (hcd : CdF K cdv "_law_take") (hk : KpF K f) (hg : GtF mg "_law_take" f) :
  Dd P w K mg base T 1 "_law_take" 2 Cm.m_law_take := by
 exact dd_of (k := 0) hTw lk hcd hk hg sc_law_take (fun _ _ _ _ _ _ us hl => match us, hl with | [_, _], _ => rfl) (ss_cons (ss_set 2 sc_law_take.nd (se_bin op2_mod (se_ix (se_var 0) se_int) (se_var 1)))
  (ss_cons (ss_asg (se_bin op2_div (se_ix (se_var 0) se_int) (se_var 1)) (sg_sub (se_var 0) se_int))
  (ss_one (ss_ret (se_var 2)))))
theorem ok_law_words (x : Mx mg) (hTw : T.w = w) (lk : LkF K f oc od kV doc pm an cdv ct osl "_law_words" s_law_words) (hcd : CdF K cdv "_law_words") (hk : KpF K f) (hg : GtF mg "_law_words" f) (D_law_take : Dd P w K mg base T 1 "_law_take" 2 Cm.m_law_take) :
  Dd P w K mg base T 2 "_law_words" 2 Cm.m_law_words := by
 exact dd_of (k := 1) hTw lk hcd hk hg sc_law_words (fun _ _ _ _ _ _ us hl => match us, hl with | [_, _], _ => rfl) (ss_cons (ss_set 2 sc_law_words.nd se_str)
  (ss_cons (ss_set 3 sc_law_words.nd (se_join se_str (se_lc (own := [("_law_k", 8)]) (N0 := ["_law_held", "_law_many", "_law_letters", "_law_word", "_law_at", "_law_other", "_law_some", "_law_start", "_law_k"]) (sc0 := (defScope s_law_words)) sc_law_words.nd rfl rfl (si_range1 rfl x.b_range (se_bin op2_add se_int (se_call D_law_take (Nat.le_of_ble_eq_true rfl) rfl (sa_cons (se_var 0) (sa_cons se_int sa_nil))))) (by decide +kernel) (sg_name 8 sc_law_words.nd) sts_nil (se_ix (se_var 2) (se_call D_law_take (Nat.le_of_ble_eq_true rfl) rfl (sa_cons (se_var 0) (sa_cons se_int sa_nil)))))))
  (ss_cons (ss_set 4 sc_law_words.nd (se_call D_law_take (Nat.le_of_ble_eq_true rfl) rfl (sa_cons (se_var 0) (sa_cons (se_len rfl x.b_len (se_var 3)) sa_nil))))
  (ss_cons (ss_set 5 sc_law_words.nd (se_ix (se_var 2) (se_bin op2_mod (se_bin op2_add (se_bin op2_add (se_sindex (se_var 2) (se_ix (se_var 3) (se_var 4))) se_int) (se_call D_law_take (Nat.le_of_ble_eq_true rfl) rfl (sa_cons (se_var 0) (sa_cons se_int sa_nil)))) se_int)))
  (ss_cons (ss_set 6 sc_law_words.nd (se_lst (sa_cons (se_var 3) (sa_cons (se_bin op2_add (se_bin op2_add (se_slice (se_var 3) so_none (so_some (se_var 4))) (se_var 5)) (se_slice (se_var 3) (so_some (se_bin op2_add (se_var 4) se_int)) so_none)) (sa_cons (se_bin op2_add (se_var 3) (se_var 5)) (sa_cons (se_slice (se_var 3) so_none (so_some (se_neg se_int))) sa_nil))))))
  (ss_cons (ss_set 7 sc_law_words.nd (se_call D_law_take (Nat.le_of_ble_eq_true rfl) rfl (sa_cons (se_var 0) (sa_cons se_int sa_nil))))
  (ss_one (ss_ret (se_lc (own := [("_law_k", 8)]) (N0 := ["_law_held", "_law_many", "_law_letters", "_law_word", "_law_at", "_law_other", "_law_some", "_law_start", "_law_k"]) (sc0 := (defScope s_law_words)) sc_law_words.nd rfl rfl (si_range1 rfl x.b_range (se_var 1)) (by decide +kernel) (sg_name 8 sc_law_words.nd) sts_nil (se_ix (se_var 6) (se_bin op2_mod (se_bin op2_add (se_var 7) (se_var 8)) se_int)))))))))))
theorem ok_law_stock (x : Mx mg) (hTw : T.w = w) (lk : LkF K f oc od kV doc pm an cdv ct osl "_law_stock" s_law_stock) (hcd : CdF K cdv "_law_stock") (hk : KpF K f) (hg : GtF mg "_law_stock" f) (D_law_take : Dd P w K mg base T 1 "_law_take" 2 Cm.m_law_take) (D_law_words : Dd P w K mg base T 2 "_law_words" 2 Cm.m_law_words) :
  Dd P w K mg base T 3 "_law_stock" 1 Cm.m_law_stock := by
 exact dd_of (k := 2) hTw lk hcd hk hg sc_law_stock (fun _ _ _ _ _ _ us hl => match us, hl with | [_], _ => rfl) (ss_cons (ss_set 1 sc_law_stock.nd (se_lst (sa_cons se_str (sa_cons se_str (sa_cons se_str (sa_cons se_str (sa_cons se_str (sa_cons se_str (sa_cons se_str (sa_cons se_str sa_nil))))))))))
  (ss_cons (ss_set 2 sc_law_stock.nd (se_call D_law_take (Nat.le_of_ble_eq_true rfl) rfl (sa_cons (se_var 0) (sa_cons se_int sa_nil))))
  (ss_cons (ss_setLc (i := 3) (own := [("_law_k", 6)]) (N0 := ["_law_held", "_law_pool", "_law_start", "_law_kinds_here", "_law_sorts", "_law_rows", "_law_k", "_law_ports", "_law_p"]) (sc0 := (defScope s_law_stock)) sc_law_stock.nd rfl rfl rfl (by decide +kernel) rfl rfl rfl (si_range1 rfl x.b_range se_int) (by decide +kernel) (sg_name 6 sc_law_stock.nd) sts_nil (se_ix (se_var 1) (se_bin op2_mod (se_bin op2_add (se_var 2) (se_bin op2_mul se_int (se_var 6))) se_int)))
  (ss_cons (ss_if (st_cmp op2_eq (se_call D_law_take (Nat.le_of_ble_eq_true rfl) rfl (sa_cons (se_var 0) (sa_cons se_int sa_nil))) se_int) (ss_one (ss_set 3 sc_law_stock.nd (se_call D_law_words (Nat.le_of_ble_eq_true rfl) rfl (sa_cons (se_var 0) (sa_cons se_int sa_nil))))) ss_nil)
  (ss_cons (ss_set 4 sc_law_stock.nd (se_call D_law_words (Nat.le_of_ble_eq_true rfl) rfl (sa_cons (se_var 0) (sa_cons (se_bin op2_add se_int (se_call D_law_take (Nat.le_of_ble_eq_true rfl) rfl (sa_cons (se_var 0) (sa_cons se_int sa_nil)))) sa_nil))))
  (ss_cons (ss_set 5 sc_law_stock.nd (se_lst sa_nil))
  (ss_cons (ss_for (si_range1 rfl x.b_range (se_bin op2_add se_int (se_call D_law_take (Nat.le_of_ble_eq_true rfl) rfl (sa_cons (se_var 0) (sa_cons se_int sa_nil))))) (sg_name 6 sc_law_stock.nd) (ss_cons (ss_set 7 sc_law_stock.nd (se_lst sa_nil))
  (ss_cons (ss_for (si_range1 rfl x.b_range (se_bin op2_add se_int (se_call D_law_take (Nat.le_of_ble_eq_true rfl) rfl (sa_cons (se_var 0) (sa_cons se_int sa_nil))))) (sg_name 8 sc_law_stock.nd) (ss_one (ss_expr (se_append (se_var 7) (se_tup (sa_cons (se_ix (se_var 4) (se_call D_law_take (Nat.le_of_ble_eq_true rfl) rfl (sa_cons (se_var 0) (sa_cons (se_len rfl x.b_len (se_var 4)) sa_nil)))) (sa_cons (se_ix se_str (se_call D_law_take (Nat.le_of_ble_eq_true rfl) rfl (sa_cons (se_var 0) (sa_cons se_int sa_nil)))) sa_nil)))))))
  (ss_cons (ss_if (SW.st (sw_and (st_cmp op2_ne (se_var 5) (se_lst sa_nil)) (sw_and1 (st_cmp op2_eq (se_call D_law_take (Nat.le_of_ble_eq_true rfl) rfl (sa_cons (se_var 0) (sa_cons se_int sa_nil))) se_int)))) (ss_one (ss_set 7 sc_law_stock.nd (se_ix (se_ix (se_var 5) se_int) se_int))) ss_nil)
  (ss_one (ss_expr (se_append (se_var 5) (se_tup (sa_cons (se_ix (se_var 3) (se_var 6)) (sa_cons (se_tuple rfl x.b_tuple (se_var 7)) sa_nil))))))))))
  (ss_one (ss_ret (se_tuple rfl x.b_tuple (se_sortedX rfl x.b_sorted (se_var 5))))))))))))
theorem ok_law_order (x : Mx mg) (hTw : T.w = w) (lk : LkF K f oc od kV doc pm an cdv ct osl "_law_order" s_law_order) (hcd : CdF K cdv "_law_order") (hk : KpF K f) (hg : GtF mg "_law_order" f) (D_law_take : Dd P w K mg base T 1 "_law_take" 2 Cm.m_law_take) :
  Dd P w K mg base T 2 "_law_order" 2 Cm.m_law_order := by
 exact dd_of (k := 1) hTw lk hcd hk hg sc_law_order (fun _ _ _ _ _ _ us hl => match us, hl with | [_, _], _ => rfl) (ss_cons (ss_set 2 sc_law_order.nd (se_listRg rfl x.b_list rfl x.b_range (se_var 1)))
  (ss_cons (ss_set 3 sc_law_order.nd (se_lst sa_nil))
  (ss_cons (ss_while (st_cmp op2_ne (se_var 2) (se_lst sa_nil)) (ss_one (ss_expr (se_append (se_var 3) (se_popAt (se_var 2) (se_call D_law_take (Nat.le_of_ble_eq_true rfl) rfl (sa_cons (se_var 0) (sa_cons (se_len rfl x.b_len (se_var 2)) sa_nil))))))))
  (ss_one (ss_ret (se_var 3))))))
theorem ok_law_asked (x : Mx mg) (hTw : T.w = w) (lk : LkF K f oc od kV doc pm an cdv ct osl "_law_asked" s_law_asked) (hcd : CdF K cdv "_law_asked") (hk : KpF K f) (hg : GtF mg "_law_asked" f) (D_read_stock : DdX P w K mg base T 10 "read_stock" 1 m_read_stock) (C_law_asked_0 : Cat K mg "NoText" (csOf cst_law_asked_0)) (T_law_asked_0 : KdOk P w K mg base 1 "_law_kinds" (kbOf kbt_law_asked_0)) (A_law_asked_0 : XfA K mg "at" (kbOf kbt_law_asked_0)) (C_law_asked_1 : Cat K mg "Twice" (csOf cst_law_asked_1)) (T_law_asked_1 : KdOk P w K mg base 1 "_law_kinds" (kbOf kbt_law_asked_1)) (A_law_asked_1 : XfA K mg "name" (kbOf kbt_law_asked_1)) (C_law_asked_2 : Cat K mg "WeaveError" (csOf cst_law_asked_2)) (T_law_asked_2 : KdOk P w K mg base 1 "_law_kinds" (kbOf kbt_law_asked_2)) :
  DdX P w K mg base T 11 "_law_asked" 1 m_law_asked := by
 exact ddx_of (k := 10) hTw lk hcd hk hg sc_law_asked (fun _ _ _ _ _ _ us hl => match us, hl with | [_], _ => rfl) (ssx_cons (ssx_of (ss_set 1 sc_law_asked.nd se_non))
  (ssx_cons (ssx_of (ss_set 2 sc_law_asked.nd (se_lst sa_nil)))
  (ssx_cons (ssx_of (ss_set 3 sc_law_asked.nd se_non))
  (ssx_cons (ssx_try_three top_famX 4 sc_law_asked.nd rfl rfl rfl rfl rfl C_law_asked_0 C_law_asked_1 C_law_asked_2 (ssx_one (ssx_set 1 sc_law_asked.nd (sex_call D_read_stock (Nat.le_of_ble_eq_true rfl) rfl (sa_cons (se_var 0) sa_nil)))) (hds_kindsAt T_law_asked_0 A_law_asked_0 (Nat.le_of_ble_eq_true rfl) rfl sc_law_asked.nd rfl rfl rfl rfl rfl rfl (by decide) (by decide) (by decide) (by decide) (by decide)) (hds_kindsAt T_law_asked_1 A_law_asked_1 (Nat.le_of_ble_eq_true rfl) rfl sc_law_asked.nd rfl rfl rfl rfl rfl rfl (by decide) (by decide) (by decide) (by decide) (by decide)) (hds_kinds T_law_asked_2 (Nat.le_of_ble_eq_true rfl) rfl sc_law_asked.nd rfl rfl rfl rfl (by decide) (by decide) (by decide) (by decide)))
  (ssx_one (ssx_of (ss_ret (se_tup (sa_cons (se_var 1) (sa_cons (se_var 2) (sa_cons (se_var 3) sa_nil)))))))))))
theorem ok_law_text (x : Mx mg) (hTw : T.w = w) (lk : LkF K f oc od kV doc pm an cdv ct osl "_law_text" s_law_text) (hcd : CdF K cdv "_law_text") (hk : KpF K f) (hg : GtF mg "_law_text" f) :
  Dd P w K mg base T 1 "_law_text" 1 m_law_text := by
 exact dd_of (k := 0) hTw lk hcd hk hg sc_law_text (fun _ _ _ _ _ _ us hl => match us, hl with | [_], _ => rfl) (ss_one (ss_ret (se_join se_str (se_bin op2_add (se_lst (sa_cons (se_ix (se_var 0) se_int) (sa_cons se_str sa_nil))) (se_lc (own := [("_law_spec", 1)]) (N0 := ["_law_row_here", "_law_spec"]) (sc0 := (defScope s_law_text)) sc_law_text.nd rfl rfl (si_seq (se_ix (se_var 0) se_int)) (by decide +kernel) (sg_name 1 sc_law_text.nd) sts_nil (se_bin op2_add (se_ix (se_var 1) se_int) (se_ix (se_var 1) se_int)))))))
theorem ok_law_bent_text (x : Mx mg) (hTw : T.w = w) (lk : LkF K f oc od kV doc pm an cdv ct osl "_law_bent_text" s_law_bent_text) (hcd : CdF K cdv "_law_bent_text") (hk : KpF K f) (hg : GtF mg "_law_bent_text" f) (D_law_take : Dd P w K mg base T 1 "_law_take" 2 Cm.m_law_take) :
  Dd P w K mg base T 2 "_law_bent_text" 2 m_law_bent_text := by
 exact dd_of (k := 1) hTw lk hcd hk hg sc_law_bent_text (fun _ _ _ _ _ _ us hl => match us, hl with | [_, _], _ => rfl) (ss_cons (ss_set 2 sc_law_bent_text.nd (se_bin op2_add se_str (se_var 1)))
  (ss_cons (ss_set 3 sc_law_bent_text.nd (se_ix (se_var 2) (se_call D_law_take (Nat.le_of_ble_eq_true rfl) rfl (sa_cons (se_var 0) (sa_cons (se_len rfl x.b_len (se_var 2)) sa_nil)))))
  (ss_cons (ss_set 4 sc_law_bent_text.nd (se_call D_law_take (Nat.le_of_ble_eq_true rfl) rfl (sa_cons (se_var 0) (sa_cons (se_bin op2_add (se_len rfl x.b_len (se_var 1)) se_int) sa_nil))))
  (ss_cons (ss_set 5 sc_law_bent_text.nd (se_split (se_var 1) se_str))
  (ss_cons (ss_set 6 sc_law_bent_text.nd (se_call D_law_take (Nat.le_of_ble_eq_true rfl) rfl (sa_cons (se_var 0) (sa_cons (se_len rfl x.b_len (se_var 5)) sa_nil))))
  (ss_cons (ss_set 7 sc_law_bent_text.nd (se_ix (se_lst (sa_cons se_str (sa_cons se_str (sa_cons se_str (sa_cons se_str (sa_cons se_str (sa_cons se_str (sa_cons se_str (sa_cons se_str (sa_cons se_str (sa_cons se_str (sa_cons se_str (sa_cons se_str sa_nil))))))))))))) (se_call D_law_take (Nat.le_of_ble_eq_true rfl) rfl (sa_cons (se_var 0) (sa_cons se_int sa_nil)))))
  (ss_cons (ss_set 8 sc_law_bent_text.nd (se_lst (sa_cons (se_bin op2_add (se_bin op2_add (se_slice (se_var 1) so_none (so_some (se_var 4))) (se_var 3)) (se_slice (se_var 1) (so_some (se_var 4)) so_none)) (sa_cons (se_bin op2_add (se_slice (se_var 1) so_none (so_some (se_var 4))) (se_slice (se_var 1) (so_some (se_bin op2_add (se_var 4) se_int)) so_none)) (sa_cons (se_bin op2_add (se_bin op2_add (se_slice (se_var 1) so_none (so_some (se_var 4))) (se_var 3)) (se_slice (se_var 1) (so_some (se_bin op2_add (se_var 4) se_int)) so_none)) (sa_cons (se_slice (se_var 1) so_none (so_some (se_var 4))) sa_nil))))))
  (ss_cons (ss_set 8 sc_law_bent_text.nd (se_bin op2_add (se_var 8) (se_lst (sa_cons (se_join se_str (se_bin op2_add (se_bin op2_add (se_slice (se_var 5) so_none (so_some (se_var 6))) (se_lst (sa_cons (se_var 7) sa_nil))) (se_slice (se_var 5) (so_some (se_bin op2_add (se_var 6) se_int)) so_none))) (sa_cons (se_join se_str (se_bin op2_add (se_slice (se_var 5) so_none (so_some (se_var 6))) (se_slice (se_var 5) (so_some (se_bin op2_add (se_var 6) se_int)) so_none))) sa_nil)))))
  (ss_cons (ss_set 8 sc_law_bent_text.nd (se_bin op2_add (se_var 8) (se_lst (sa_cons (se_join se_str (se_bin op2_add (se_bin op2_add (se_slice (se_var 5) so_none (so_some (se_var 6))) (se_lst (sa_cons (se_var 7) sa_nil))) (se_slice (se_var 5) (so_some (se_var 6)) so_none))) (sa_cons (se_join se_str (se_slice (se_var 5) so_none (so_some se_int))) (sa_cons (se_bin op2_add (se_var 1) se_str) sa_nil))))))
  (ss_one (ss_ret (se_ix (se_bin op2_add (se_var 8) (se_lst (sa_cons (se_bin op2_add (se_var 1) se_str) (sa_cons se_str sa_nil)))) (se_call D_law_take (Nat.le_of_ble_eq_true rfl) rfl (sa_cons (se_var 0) (sa_cons se_int sa_nil)))))))))))))))
theorem ok_law_bent (x : Mx mg) (hTw : T.w = w) (lk : LkF K f oc od kV doc pm an cdv ct osl "_law_bent" s_law_bent) (hcd : CdF K cdv "_law_bent") (hk : KpF K f) (hg : GtF mg "_law_bent" f) (D_law_take : Dd P w K mg base T 1 "_law_take" 2 Cm.m_law_take) (D_law_bent_text : Dd P w K mg base T 2 "_law_bent_text" 2 m_law_bent_text) :
  Dd P w K mg base T 3 "_law_bent" 2 m_law_bent := by
 exact dd_of (k := 2) hTw lk hcd hk hg sc_law_bent (fun _ _ _ _ _ _ us hl => match us, hl with | [_, _], _ => rfl) (ss_cons (ss_set 2 sc_law_bent.nd (se_call D_law_take (Nat.le_of_ble_eq_true rfl) rfl (sa_cons (se_var 0) (sa_cons se_int sa_nil))))
  (ss_cons (ss_set 3 sc_law_bent.nd (se_call D_law_take (Nat.le_of_ble_eq_true rfl) rfl (sa_cons (se_var 0) (sa_cons (se_len rfl x.b_len (se_var 1)) sa_nil))))
  (ss_cons (ss_if (st_cmp op2_ltX (se_var 2) se_int) (ss_one (ss_ret (se_bin op2_add (se_bin op2_add (se_slice (se_var 1) so_none (so_some (se_var 3))) (se_lst (sa_cons (se_call D_law_bent_text (Nat.le_of_ble_eq_true rfl) rfl (sa_cons (se_var 0) (sa_cons (se_ix (se_var 1) (se_var 3)) sa_nil))) sa_nil))) (se_slice (se_var 1) (so_some (se_bin op2_add (se_var 3) se_int)) so_none)))) ss_nil)
  (ss_cons (ss_if (st_cmp op2_eq (se_var 2) se_int) (ss_cons (ss_set 4 sc_law_bent.nd (se_ix (se_lst (sa_cons (se_ix (se_var 1) (se_var 3)) (sa_cons (se_bin op2_add (se_ix (se_var 1) (se_var 3)) se_str) (sa_cons (se_bin op2_add (se_ix (se_split (se_ix (se_var 1) (se_var 3)) se_str) se_int) se_str) sa_nil)))) (se_call D_law_take (Nat.le_of_ble_eq_true rfl) rfl (sa_cons (se_var 0) (sa_cons se_int sa_nil)))))
  (ss_one (ss_ret (se_bin op2_add (se_bin op2_add (se_slice (se_var 1) so_none (so_some (se_call D_law_take (Nat.le_of_ble_eq_true rfl) rfl (sa_cons (se_var 0) (sa_cons (se_bin op2_add (se_len rfl x.b_len (se_var 1)) se_int) sa_nil))))) (se_lst (sa_cons (se_var 4) sa_nil))) (se_var 1))))) ss_nil)
  (ss_cons (ss_if (st_cmp op2_eq (se_var 2) se_int) (ss_cons (ss_setLc (i := 5) (own := [("_law_sign", 6)]) (N0 := ["_law_held", "_law_texts", "_law_way", "_law_at", "_law_again", "_law_more", "_law_sign", "_law_text_here"]) (sc0 := (defScope s_law_bent)) sc_law_bent.nd rfl rfl rfl (by decide +kernel) rfl rfl rfl (si_seq (se_slice se_str so_none (so_some (se_bin op2_sub (se_ix (se_lst (sa_cons se_int (sa_cons se_int sa_nil))) (se_call D_law_take (Nat.le_of_ble_eq_true rfl) rfl (sa_cons (se_var 0) (sa_cons se_int sa_nil)))) (se_len rfl x.b_len (se_var 1)))))) (by decide +kernel) (sg_name 6 sc_law_bent.nd) sts_nil (se_bin op2_add (se_bin op2_add se_str (se_var 6)) se_str))
  (ss_one (ss_ret (se_if (st_cmp op2_eq (se_call D_law_take (Nat.le_of_ble_eq_true rfl) rfl (sa_cons (se_var 0) (sa_cons se_int sa_nil))) se_int) (se_bin op2_add (se_var 1) (se_var 5)) (se_bin op2_add (se_var 5) (se_var 1)))))) ss_nil)
  (ss_one (ss_ret (se_ix (se_lst (sa_cons (se_lst sa_nil) (sa_cons (se_slice (se_var 1) (so_some (se_var 3)) so_none) (sa_cons (se_bin op2_add (se_var 1) (se_var 1)) (sa_cons (se_lc (own := [("_law_text_here", 7)]) (N0 := ["_law_held", "_law_texts", "_law_way", "_law_at", "_law_again", "_law_more", "_law_sign", "_law_text_here"]) (sc0 := (defScope s_law_bent)) sc_law_bent.nd rfl rfl (si_seq (se_var 1)) (by decide +kernel) (sg_name 7 sc_law_bent.nd) sts_nil (se_call D_law_bent_text (Nat.le_of_ble_eq_true rfl) rfl (sa_cons (se_var 0) (sa_cons (se_var 7) sa_nil)))) sa_nil))))) (se_call D_law_take (Nat.le_of_ble_eq_true rfl) rfl (sa_cons (se_var 0) (sa_cons se_int sa_nil)))))))))))
theorem ok_law_name (x : Mx mg) (hTw : T.w = w) (lk : LkF K f oc od kV doc pm an cdv ct osl "_law_name" s_law_name) (hcd : CdF K cdv "_law_name") (hk : KpF K f) (hg : GtF mg "_law_name" f) :
  Dd P w K mg base T 1 "_law_name" 1 m_law_name := by
 exact dd_of (k := 0) hTw lk hcd hk hg sc_law_name (fun _ _ _ _ _ _ us hl => match us, hl with | [_], _ => rfl) (ss_one (ss_ret (se_and (se_chain op2_le op2_le se_int (se_len rfl x.b_len (se_var 0)) se_int) (se_one (se_cmp op2_eq (se_len rfl x.b_len (se_lc (own := [("_law_sign", 1)]) (N0 := ["_law_word", "_law_sign"]) (sc0 := (defScope s_law_name)) sc_law_name.nd rfl rfl (si_seq (se_var 0)) (by decide +kernel) (sg_name 1 sc_law_name.nd) (sts_one (st_cmp op2_notIn (se_var 1) se_str)) (se_var 1))) se_int)))))
theorem ok_law_row (x : Mx mg) (hTw : T.w = w) (lk : LkF K f oc od kV doc pm an cdv ct osl "_law_row" s_law_row) (hcd : CdF K cdv "_law_row") (hk : KpF K f) (hg : GtF mg "_law_row" f) (D_law_name : Dd P w K mg base T 1 "_law_name" 1 m_law_name) :
  Dd P w K mg base T 2 "_law_row" 1 m_law_row := by
 exact dd_of (k := 1) hTw lk hcd hk hg sc_law_row (fun _ _ _ _ _ _ us hl => match us, hl with | [_], _ => rfl) (ss_cons (ss_set 1 sc_law_row.nd (se_split (se_var 0) se_str))
  (ss_cons (ss_if (SW.st (sw_or (st_not (st_chain op2_le op2_le se_int (se_len rfl x.b_len (se_var 1)) se_int)) (sw_or (st_cmp op2_ne (se_ix (se_var 1) se_int) se_str) (sw_or1 (st_not (st_val (se_call D_law_name (Nat.le_of_ble_eq_true rfl) rfl (sa_cons (se_ix (se_var 1) se_int) sa_nil)))))))) (ss_one (ss_ret se_non)) ss_nil)
  (ss_cons (ss_for (si_seq (se_slice (se_var 1) (so_some se_int) so_none)) (sg_name 2 sc_law_row.nd) (ss_one (ss_if (SW.st (sw_or (st_cmp op2_notIn (se_slice (se_var 2) so_none (so_some se_int)) (se_lst (sa_cons se_str (sa_cons se_str sa_nil)))) (sw_or1 (st_not (st_val (se_call D_law_name (Nat.le_of_ble_eq_true rfl) rfl (sa_cons (se_slice (se_var 2) (so_some se_int) so_none) sa_nil))))))) (ss_one (ss_ret se_non)) ss_nil)))
  (ss_one (ss_ret (se_tup (sa_cons (se_ix (se_var 1) se_int) (sa_cons (se_tuple rfl x.b_tuple (se_lc (own := [("_law_word", 2)]) (N0 := ["_law_text_here", "_law_words_here", "_law_word"]) (sc0 := (defScope s_law_row)) sc_law_row.nd rfl rfl (si_seq (se_slice (se_var 1) (so_some se_int) so_none)) (by decide +kernel) (sg_name 2 sc_law_row.nd) sts_nil (se_tup (sa_cons (se_slice (se_var 2) (so_some se_int) so_none) (sa_cons (se_slice (se_var 2) so_none (so_some se_int)) sa_nil))))) sa_nil))))))))
theorem ok_law_due (x : Mx mg) (hTw : T.w = w) (lk : LkF K f oc od kV doc pm an cdv ct osl "_law_due" s_law_due) (hcd : CdF K cdv "_law_due") (hk : KpF K f) (hg : GtF mg "_law_due" f) (D_law_row : Dd P w K mg base T 2 "_law_row" 1 m_law_row) :
  Dd P w K mg base T 3 "_law_due" 1 m_law_due := by
 exact dd_of (k := 2) hTw lk hcd hk hg sc_law_due (fun _ _ _ _ _ _ us hl => match us, hl with | [_], _ => rfl) (ss_cons (ss_setC 1 sc_law_due.nd (se_lc (own := [("_law_text_here", 5)]) (N0 := ["_law_texts", "_law_rows", "_law_bad", "_law_kinds_here", "_law_again", "_law_text_here", "_law_k", "_law_row_here"]) (sc0 := (defScope s_law_due)) sc_law_due.nd rfl rfl (si_seq (se_var 0)) (by decide +kernel) (sg_name 5 sc_law_due.nd) sts_nil (se_call D_law_row (Nat.le_of_ble_eq_true rfl) rfl (sa_cons (se_var 5) sa_nil))))
  (ss_cons (ss_setLc (i := 2) (own := [("_law_k", 6)]) (N0 := ["_law_texts", "_law_rows", "_law_bad", "_law_kinds_here", "_law_again", "_law_text_here", "_law_k", "_law_row_here"]) (sc0 := (defScope s_law_due)) sc_law_due.nd rfl rfl rfl (by decide +kernel) rfl rfl rfl (si_range1 rfl x.b_range (se_len rfl x.b_len (se_var 1))) (by decide +kernel) (sg_name 6 sc_law_due.nd) (sts_one (st_cmp op2_is (se_ix (se_var 1) (se_var 6)) se_non)) (se_var 6))
  (ss_cons (ss_if (st_cmp op2_ne (se_var 2) (se_lst sa_nil)) (ss_one (ss_ret (se_tup (sa_cons se_non (sa_cons se_int (sa_cons (se_ix (se_var 2) se_int) sa_nil)))))) ss_nil)
  (ss_cons (ss_setC 3 sc_law_due.nd (se_lc (own := [("_law_row_here", 7)]) (N0 := ["_law_texts", "_law_rows", "_law_bad", "_law_kinds_here", "_law_again", "_law_text_here", "_law_k", "_law_row_here"]) (sc0 := (defScope s_law_due)) sc_law_due.nd rfl rfl (si_seq (se_var 1)) (by decide +kernel) (sg_name 7 sc_law_due.nd) sts_nil (se_ix (se_var 7) se_int)))
  (ss_cons (ss_setLc (i := 4) (own := [("_law_k", 6)]) (N0 := ["_law_texts", "_law_rows", "_law_bad", "_law_kinds_here", "_law_again", "_law_text_here", "_law_k", "_law_row_here"]) (sc0 := (defScope s_law_due)) sc_law_due.nd rfl rfl rfl (by decide +kernel) rfl rfl rfl (si_range1 rfl x.b_range (se_len rfl x.b_len (se_var 1))) (by decide +kernel) (sg_name 6 sc_law_due.nd) (sts_one (st_cmp op2_in (se_ix (se_var 3) (se_var 6)) (se_slice (se_var 3) so_none (so_some (se_var 6))))) (se_var 6))
  (ss_cons (ss_if (st_cmp op2_ne (se_var 4) (se_lst sa_nil)) (ss_one (ss_ret (se_tup (sa_cons se_non (sa_cons se_int (sa_cons (se_ix (se_var 3) (se_ix (se_var 4) se_int)) sa_nil)))))) ss_nil)
  (ss_cons (ss_if (st_not (st_chain op2_le op2_le se_int (se_len rfl x.b_len (se_var 1)) se_int)) (ss_one (ss_ret (se_tup (sa_cons se_non (sa_cons se_int (sa_cons se_non sa_nil)))))) ss_nil)
  (ss_one (ss_ret (se_tup (sa_cons (se_tuple rfl x.b_tuple (se_sortedX rfl x.b_sorted (se_var 1))) (sa_cons se_non (sa_cons se_non sa_nil)))))))))))))
theorem fn_law {f : Addr} {oc : Value} {od : Option Addr} {kV doc pm : Value} {an : Option Addr} {cdv ct : Value} {osl : Array (Option Value)} (x : Mx mg) (hTw : T.w = w)
  (lk : K.lookup f = some ⟨oc, od, .func (PySem.W.fnOf "law" "law" (defArgs s_law) (defBody s_law) (defScope s_law) .none kV doc pm an cdv ct), osl⟩) (hcd : PySem.W.codeIn K cdv "law" = true) (D_law_digits : Dd P w K mg base T 1 "_law_digits" 2 Cm.m_law_digits) (D_law_stock : Dd P w K mg base T 3 "_law_stock" 1 Cm.m_law_stock) (D_law_bent : Dd P w K mg base T 3 "_law_bent" 2 m_law_bent) (D_show_kind : Dd P w K mg base T 2 "show_kind" 2 m_show_kind) (D_law_text : Dd P w K mg base T 1 "_law_text" 1 m_law_text) (D_law_due : Dd P w K mg base T 3 "_law_due" 1 m_law_due) (D_law_asked : DdX P w K mg base T 11 "_law_asked" 1 m_law_asked) (D_law_order : Dd P w K mg base T 2 "_law_order" 2 Cm.m_law_order) :
  FnOk P w K mg base CX0 12 f (PySem.W.fnOf "law" "law" (defArgs s_law) (defBody s_law) (defScope s_law) .none kV doc pm an cdv ct) ["_law_script"] (spM K T 1 m_law) := by
 exact def_ok (k := 11) hTw lk hcd sc_law (ss_cons (ss_for (si_range3 rfl x.b_range se_int (se_max rfl x.b_max se_int (se_len rfl x.b_len (se_var 0))) se_int) (sg_name 1 sc_law.nd) (ss_cons (ss_set 2 sc_law.nd (se_call D_law_digits (Nat.le_of_ble_eq_true rfl) rfl (sa_cons (se_var 0) (sa_cons (se_var 1) sa_nil))))
  (ss_cons (ss_set 3 sc_law.nd (se_call D_law_stock (Nat.le_of_ble_eq_true rfl) rfl (sa_cons (se_var 2) sa_nil)))
  (ss_cons (ss_for (si_seq (se_var 3)) (sg_name 4 sc_law.nd) (ss_cons (ss_set 8 sc_law.nd (se_call D_show_kind (Nat.le_of_ble_eq_true rfl) rfl (sa_cons (se_ix (se_var 4) se_int) (sa_cons (se_ix (se_var 4) se_int) sa_nil))))
  (ss_one (ss_if (SW.st (sw_or (st_not (st_val (se_isi rfl x.b_isinstance rfl x.b_str (by decide +kernel) (se_var 8)))) (sw_or1 (st_cmp op2_ne (se_var 8) (se_call D_law_text (Nat.le_of_ble_eq_true rfl) rfl (sa_cons (se_var 4) sa_nil)))))) (ss_one (ss_ret se_bl)) ss_nil))))
  (ss_cons (ss_setLc (i := 5) (own := [("_law_n", 11)]) (N0 := ["_law_script", "_law_k", "_law_held", "_law_stock_here", "_law_row_here", "_law_texts", "_law_bent_here", "_law_some", "_law_told", "_law_handed", "_law_due_here", "_law_n", "_law_found", "_law_which", "_law_field"]) (sc0 := (defScope s_law)) sc_law.nd rfl rfl rfl (by decide +kernel) rfl rfl rfl (si_seq (se_call D_law_order (Nat.le_of_ble_eq_true rfl) rfl (sa_cons (se_var 2) (sa_cons (se_len rfl x.b_len (se_var 3)) sa_nil)))) (by decide +kernel) (sg_name 11 sc_law.nd) sts_nil (se_call D_law_text (Nat.le_of_ble_eq_true rfl) rfl (sa_cons (se_ix (se_var 3) (se_var 11)) sa_nil)))
  (ss_cons (ss_set 6 sc_law.nd (se_call D_law_bent (Nat.le_of_ble_eq_true rfl) rfl (sa_cons (se_call D_law_digits (Nat.le_of_ble_eq_true rfl) rfl (sa_cons (se_var 0) (sa_cons (se_bin op2_add (se_var 1) se_int) sa_nil))) (sa_cons (se_var 5) sa_nil))))
  (ss_one (ss_for (si_seq (se_lst (sa_cons (se_var 5) (sa_cons (se_var 6) sa_nil)))) (sg_name 7 sc_law.nd) (ss_cons (ss_set 9 sc_law.nd (se_list rfl x.b_list (se_var 7)))
  (ss_cons (ss_asg (se_call D_law_due (Nat.le_of_ble_eq_true rfl) rfl (sa_cons (se_var 7) sa_nil)) (sg_tup (sgs_cons (sg_name 12 sc_law.nd) (sgs_cons (sg_name 13 sc_law.nd) (sgs_cons (sg_name 14 sc_law.nd) sgs_nil)))))
  (ss_cons (ss_set 8 sc_law.nd (se_callX D_law_asked (Nat.le_of_ble_eq_true rfl) rfl (sa_cons (se_var 9) sa_nil)))
  (ss_cons (ss_set 10 sc_law.nd (se_if (st_cmp op2_isNot (se_var 13) se_non) (se_bin op2_add (se_lc (own := [("_law_n", 11)]) (N0 := ["_law_script", "_law_k", "_law_held", "_law_stock_here", "_law_row_here", "_law_texts", "_law_bent_here", "_law_some", "_law_told", "_law_handed", "_law_due_here", "_law_n", "_law_found", "_law_which", "_law_field"]) (sc0 := (defScope s_law)) sc_law.nd rfl rfl (si_range1 rfl x.b_range se_int) (by decide +kernel) (sg_name 11 sc_law.nd) sts_nil (se_cmp op2_eq (se_var 11) (se_var 13))) (se_lst (sa_cons se_bl sa_nil))) (se_lst sa_nil)))
  (ss_one (ss_if (SW.st (sw_or (st_cmp op2_ne (se_var 8) (se_tup (sa_cons (se_var 12) (sa_cons (se_var 10) (sa_cons (se_var 14) sa_nil))))) (sw_or (st_val (se_isi rfl x.b_isinstance rfl x.b_bool (by decide +kernel) (se_ix (se_var 8) se_int))) (sw_or1 (st_cmp op2_ne (se_var 9) (se_var 7)))))) (ss_one (ss_ret se_bl)) ss_nil))))))))))))))
  (ss_one (ss_ret se_bl)))
theorem sc_law_kinds : FnScope ["_law_e", "_law_some"] ["_law_e"] (defScope s_law_kinds) := ⟨rfl, rfl, rfl, by decide +kernel, rfl, by decide +kernel, by decide +kernel⟩
theorem kb_law_kinds : KBody "_law_e" "_law_some" (defBody s_law_kinds) ["NoText", "Twice", "NoStock", "NoPlace"] ["Shared", "NoNet", "NoRow", "NoRoad"] ["NoRule", "ValueError"] := ⟨_, _, _, _, _, _, _, _, _, _, _, _, _, _, _, rfl, (.cons (.cons (.cons (.cons (.nil))))), (.cons (.cons (.cons (.cons (.nil))))), (.cons (.cons (.nil)))⟩
theorem kd_law_kinds {f : Addr} {oc : Value} {od : Option Addr} {kV doc pm : Value} {an : Option Addr} {cdv ct : Value} {osl : Array (Option Value)} {t : KbT} (x : Mx mg) (hv : mg "ValueError" = none) (lk : K.lookup f = some ⟨oc, od, .func (PySem.W.fnOf "_law_kinds" "_law_kinds" (defArgs s_law_kinds) (defBody s_law_kinds) (defScope s_law_kinds) .none kV doc pm an cdv ct), osl⟩) (hcd : PySem.W.codeIn K cdv "_law_kinds" = true) (hk : PySem.W.keepIn K (.ref f) = true) (hg : mg "_law_kinds" = some (.ref f))
  (hb : kbB K t ["NoText", "Twice", "NoStock", "NoPlace"] ["Shared", "NoNet", "NoRow", "NoRoad"] ["NoRule", "ValueError"] = true) (hm : ∀ c ∈ (["NoText", "Twice", "NoStock", "NoPlace", "Shared", "NoNet", "NoRow", "NoRoad", "NoRule", "ValueError"] : List Str), c ≠ ("ValueError" : Str) -> mg c = some (.ref (He.ga K c))) (ht : ∀ r ∈ t, mg r.1 = some (.ref (He.ga K r.1))) : KdOk P w K mg base 1 "_law_kinds" (kbOf t) :=
 kd_of (k := 0) hg hk lk hcd sc_law_kinds (fun _ => rfl) rfl rfl (by decide +kernel) rfl x.b_isinstance (by decide +kernel) kb_law_kinds (kbB_ok hb hv hm ht)
theorem ef_NoText {f : Addr} {oc : Value} {od : Option Addr} {kV doc pm : Value} {an : Option Addr} {cdv ct : Value} {osl : Array (Option Value)} (hg : mg "NoText" = some (.ref (He.ga K "NoText"))) (hb : fldB K "NoText" "at" = true) (ef : He.ma K (He.ga K "NoText") "__init__" = f) (lk : K.lookup f = some ⟨oc, od, .func (PySem.W.fnOf "__init__" "NoText.__init__" (defArgs s_NoText_init) (defBody s_NoText_init) (defScope s_NoText_init) .none kV doc pm an cdv ct), osl⟩) (hcd : PySem.W.codeIn K cdv "NoText.__init__" = true) : ExcF P w K mg base 1 "NoText" "at" := by
 obtain ⟨h1, h2, h3, h4⟩ := fldB_ok hb
 rw [ef] at h3 h4
 exact excF_of (s1 := "x") (k := 0) hg h1 h2 h3 h4 lk hcd ⟨rfl, rfl, rfl, by decide +kernel, rfl, by decide +kernel, by decide +kernel⟩ rfl rfl (by decide +kernel) (by decide +kernel) (fun _ => rfl) (Binds.all fun us hl => match us, hl with | [_, _], _ => rfl)
theorem ef_Twice {f : Addr} {oc : Value} {od : Option Addr} {kV doc pm : Value} {an : Option Addr} {cdv ct : Value} {osl : Array (Option Value)} (hg : mg "Twice" = some (.ref (He.ga K "Twice"))) (hb : fldB K "Twice" "name" = true) (ef : He.ma K (He.ga K "Twice") "__init__" = f) (lk : K.lookup f = some ⟨oc, od, .func (PySem.W.fnOf "__init__" "Twice.__init__" (defArgs s_Twice_init) (defBody s_Twice_init) (defScope s_Twice_init) .none kV doc pm an cdv ct), osl⟩) (hcd : PySem.W.codeIn K cdv "Twice.__init__" = true) : ExcF P w K mg base 1 "Twice" "name" := by
 obtain ⟨h1, h2, h3, h4⟩ := fldB_ok hb
 rw [ef] at h3 h4
 exact excF_of (s1 := "x") (k := 0) hg h1 h2 h3 h4 lk hcd ⟨rfl, rfl, rfl, by decide +kernel, rfl, by decide +kernel, by decide +kernel⟩ rfl rfl (by decide +kernel) (by decide +kernel) (fun _ => rfl) (Binds.all fun us hl => match us, hl with | [_, _], _ => rfl)
end
end K06
namespace K06
open PySem PySem.Spec PyProof.Rows L2 NdefX GenE Sh
section
variable {w : World} {K : PySem.W.Frag} {h : Heap} {mg : Str -> Option Value}
theorem mx (X : K.In h) (G : h.Ns mainGlobals mg) (c : He.SaysD fas fns K) : Mx mg where
 b_ValueError := He.free_ok X G (c.fact 26 (f := .free "ValueError") rfl)
 b_all := He.free_ok X G (c.fact 27 (f := .free "all") rfl)
 b_bool := He.free_ok X G (c.fact 28 (f := .free "bool") rfl)
 b_enumerate := He.free_ok X G (c.fact 29 (f := .free "enumerate") rfl)
 b_isinstance := He.free_ok X G (c.fact 30 (f := .free "isinstance") rfl)
 b_len := He.free_ok X G (c.fact 31 (f := .free "len") rfl)
 b_list := He.free_ok X G (c.fact 32 (f := .free "list") rfl)
 b_max := He.free_ok X G (c.fact 33 (f := .free "max") rfl)
 b_range := He.free_ok X G (c.fact 34 (f := .free "range") rfl)
 b_sorted := He.free_ok X G (c.fact 35 (f := .free "sorted") rfl)
 b_str := He.free_ok X G (c.fact 36 (f := .free "str") rfl)
 b_tuple := He.free_ok X G (c.fact 37 (f := .free "tuple") rfl)
 c_LETTERS := He.str_ok X G (c.fact 38 rfl)
 c_NAME_MOST := He.int_ok X G (c.fact 39 rfl)
 c_KINDS_MOST := He.int_ok X G (c.fact 40 rfl)
 c_PORTS_MOST := He.int_ok X G (c.fact 41 rfl)
abbrev cs (K : PySem.W.Frag) : List (Addr × Addr) := tfs.map (He.cT K)
abbrev tT (K : PySem.W.Frag) (w : World) : Tb := ⟨(cs K).map (·.2), w⟩
theorem lawAt (X : K.In h) (G : h.Ns mainGlobals mg) (c : He.SaysX fas fns [] tfs exB w h K) (fa : Addr) (hfa : mg "law" = some (.ref fa))
  (good : ∀ (o : Ob) (ns : List Int), o.seq = some (ns.map Vl.int) -> ns.length <= 63 -> (∀ z ∈ ns, Builtin.Int.intBits z <= 1048576) -> ∃ M, m_law [.ref 0] [o] = some (.bl true, M)) :
  LamX.LawAtS PySem.Challenge.rw_weave_k06_stocks_as_texts w K CX0 12 63 "_law_script" mg fa h := by
 have cd : He.SaysD fas fns K := congrArg (fun z : He.AlT => z.1) c.t
 have x := mx X G cd
 obtain ⟨fd_is_tuple, F_is_tuple⟩ := cd.def_ 0 (d := d_is_tuple) rfl
 obtain ⟨oc_is_tuple, od_is_tuple, kV_is_tuple, doc_is_tuple, pm_is_tuple, an_is_tuple, cc_is_tuple, ct_is_tuple, osl_is_tuple, e_is_tuple, lk_is_tuple, hcd_is_tuple, kp_is_tuple⟩ := fun_out F_is_tuple
 have hg_is_tuple : mg "is_tuple" = some (.ref (He.fAd K ("is_tuple", none))) := He.glo_ok X G (cd.fact 0 (f := .glo "is_tuple") rfl)
 obtain ⟨fd_rises, F_rises⟩ := cd.def_ 1 (d := d_rises) rfl
 obtain ⟨oc_rises, od_rises, kV_rises, doc_rises, pm_rises, an_rises, cc_rises, ct_rises, osl_rises, e_rises, lk_rises, hcd_rises, kp_rises⟩ := fun_out F_rises
 have hg_rises : mg "rises" = some (.ref (He.fAd K ("rises", none))) := He.glo_ok X G (cd.fact 1 (f := .glo "rises") rfl)
 obtain ⟨fd_is_spelled, F_is_spelled⟩ := cd.def_ 2 (d := d_is_spelled) rfl
 obtain ⟨oc_is_spelled, od_is_spelled, kV_is_spelled, doc_is_spelled, pm_is_spelled, an_is_spelled, cc_is_spelled, ct_is_spelled, osl_is_spelled, e_is_spelled, lk_is_spelled, hcd_is_spelled, kp_is_spelled⟩ := fun_out F_is_spelled
 have hg_is_spelled : mg "is_spelled" = some (.ref (He.fAd K ("is_spelled", none))) := He.glo_ok X G (cd.fact 2 (f := .glo "is_spelled") rfl)
 obtain ⟨fd_is_name, F_is_name⟩ := cd.def_ 3 (d := d_is_name) rfl
 obtain ⟨oc_is_name, od_is_name, kV_is_name, doc_is_name, pm_is_name, an_is_name, cc_is_name, ct_is_name, osl_is_name, e_is_name, lk_is_name, hcd_is_name, kp_is_name⟩ := fun_out F_is_name
 have hg_is_name : mg "is_name" = some (.ref (He.fAd K ("is_name", none))) := He.glo_ok X G (cd.fact 3 (f := .glo "is_name") rfl)
 obtain ⟨fd_is_spec, F_is_spec⟩ := cd.def_ 4 (d := d_is_spec) rfl
 obtain ⟨oc_is_spec, od_is_spec, kV_is_spec, doc_is_spec, pm_is_spec, an_is_spec, cc_is_spec, ct_is_spec, osl_is_spec, e_is_spec, lk_is_spec, hcd_is_spec, kp_is_spec⟩ := fun_out F_is_spec
 have hg_is_spec : mg "is_spec" = some (.ref (He.fAd K ("is_spec", none))) := He.glo_ok X G (cd.fact 4 (f := .glo "is_spec") rfl)
 obtain ⟨fd_are_specs, F_are_specs⟩ := cd.def_ 5 (d := d_are_specs) rfl
 obtain ⟨oc_are_specs, od_are_specs, kV_are_specs, doc_are_specs, pm_are_specs, an_are_specs, cc_are_specs, ct_are_specs, osl_are_specs, e_are_specs, lk_are_specs, hcd_are_specs, kp_are_specs⟩ := fun_out F_are_specs
 have hg_are_specs : mg "are_specs" = some (.ref (He.fAd K ("are_specs", none))) := He.glo_ok X G (cd.fact 5 (f := .glo "are_specs") rfl)
 obtain ⟨fd_is_entry, F_is_entry⟩ := cd.def_ 6 (d := d_is_entry) rfl
 obtain ⟨oc_is_entry, od_is_entry, kV_is_entry, doc_is_entry, pm_is_entry, an_is_entry, cc_is_entry, ct_is_entry, osl_is_entry, e_is_entry, lk_is_entry, hcd_is_entry, kp_is_entry⟩ := fun_out F_is_entry
 have hg_is_entry : mg "is_entry" = some (.ref (He.fAd K ("is_entry", none))) := He.glo_ok X G (cd.fact 6 (f := .glo "is_entry") rfl)
 obtain ⟨fd_is_stock, F_is_stock⟩ := cd.def_ 7 (d := d_is_stock) rfl
 obtain ⟨oc_is_stock, od_is_stock, kV_is_stock, doc_is_stock, pm_is_stock, an_is_stock, cc_is_stock, ct_is_stock, osl_is_stock, e_is_stock, lk_is_stock, hcd_is_stock, kp_is_stock⟩ := fun_out F_is_stock
 have hg_is_stock : mg "is_stock" = some (.ref (He.fAd K ("is_stock", none))) := He.glo_ok X G (cd.fact 7 (f := .glo "is_stock") rfl)
 obtain ⟨fd_show_spec, F_show_spec⟩ := cd.def_ 8 (d := d_show_spec) rfl
 obtain ⟨oc_show_spec, od_show_spec, kV_show_spec, doc_show_spec, pm_show_spec, an_show_spec, cc_show_spec, ct_show_spec, osl_show_spec, e_show_spec, lk_show_spec, hcd_show_spec, kp_show_spec⟩ := fun_out F_show_spec
 have hg_show_spec : mg "show_spec" = some (.ref (He.fAd K ("show_spec", none))) := He.glo_ok X G (cd.fact 8 (f := .glo "show_spec") rfl)
 obtain ⟨fd_read_spec, F_read_spec⟩ := cd.def_ 9 (d := d_read_spec) rfl
 obtain ⟨oc_read_spec, od_read_spec, kV_read_spec, doc_read_spec, pm_read_spec, an_read_spec, cc_read_spec, ct_read_spec, osl_read_spec, e_read_spec, lk_read_spec, hcd_read_spec, kp_read_spec⟩ := fun_out F_read_spec
 have hg_read_spec : mg "read_spec" = some (.ref (He.fAd K ("read_spec", none))) := He.glo_ok X G (cd.fact 9 (f := .glo "read_spec") rfl)
 obtain ⟨fd_show_kind, F_show_kind⟩ := cd.def_ 10 (d := d_show_kind) rfl
 obtain ⟨oc_show_kind, od_show_kind, kV_show_kind, doc_show_kind, pm_show_kind, an_show_kind, cc_show_kind, ct_show_kind, osl_show_kind, e_show_kind, lk_show_kind, hcd_show_kind, kp_show_kind⟩ := fun_out F_show_kind
 have hg_show_kind : mg "show_kind" = some (.ref (He.fAd K ("show_kind", none))) := He.glo_ok X G (cd.fact 10 (f := .glo "show_kind") rfl)
 obtain ⟨fd_read_kind, F_read_kind⟩ := cd.def_ 11 (d := d_read_kind) rfl
 obtain ⟨oc_read_kind, od_read_kind, kV_read_kind, doc_read_kind, pm_read_kind, an_read_kind, cc_read_kind, ct_read_kind, osl_read_kind, e_read_kind, lk_read_kind, hcd_read_kind, kp_read_kind⟩ := fun_out F_read_kind
 have hg_read_kind : mg "read_kind" = some (.ref (He.fAd K ("read_kind", none))) := He.glo_ok X G (cd.fact 11 (f := .glo "read_kind") rfl)
 obtain ⟨fd_read_stock, F_read_stock⟩ := cd.def_ 12 (d := d_read_stock) rfl
 obtain ⟨oc_read_stock, od_read_stock, kV_read_stock, doc_read_stock, pm_read_stock, an_read_stock, cc_read_stock, ct_read_stock, osl_read_stock, e_read_stock, lk_read_stock, hcd_read_stock, kp_read_stock⟩ := fun_out F_read_stock
 have hg_read_stock : mg "read_stock" = some (.ref (He.fAd K ("read_stock", none))) := He.glo_ok X G (cd.fact 12 (f := .glo "read_stock") rfl)
 obtain ⟨fd_law_digits, F_law_digits⟩ := cd.def_ 13 (d := d_law_digits) rfl
 obtain ⟨oc_law_digits, od_law_digits, kV_law_digits, doc_law_digits, pm_law_digits, an_law_digits, cc_law_digits, ct_law_digits, osl_law_digits, e_law_digits, lk_law_digits, hcd_law_digits, kp_law_digits⟩ := fun_out F_law_digits
 have hg_law_digits : mg "_law_digits" = some (.ref (He.fAd K ("_law_digits", none))) := He.glo_ok X G (cd.fact 13 (f := .glo "_law_digits") rfl)
 obtain ⟨fd_law_take, F_law_take⟩ := cd.def_ 14 (d := d_law_take) rfl
 obtain ⟨oc_law_take, od_law_take, kV_law_take, doc_law_take, pm_law_take, an_law_take, cc_law_take, ct_law_take, osl_law_take, e_law_take, lk_law_take, hcd_law_take, kp_law_take⟩ := fun_out F_law_take
 have hg_law_take : mg "_law_take" = some (.ref (He.fAd K ("_law_take", none))) := He.glo_ok X G (cd.fact 14 (f := .glo "_law_take") rfl)
 obtain ⟨fd_law_words, F_law_words⟩ := cd.def_ 15 (d := d_law_words) rfl
 obtain ⟨oc_law_words, od_law_words, kV_law_words, doc_law_words, pm_law_words, an_law_words, cc_law_words, ct_law_words, osl_law_words, e_law_words, lk_law_words, hcd_law_words, kp_law_words⟩ := fun_out F_law_words
 have hg_law_words : mg "_law_words" = some (.ref (He.fAd K ("_law_words", none))) := He.glo_ok X G (cd.fact 15 (f := .glo "_law_words") rfl)
 obtain ⟨fd_law_stock, F_law_stock⟩ := cd.def_ 16 (d := d_law_stock) rfl
 obtain ⟨oc_law_stock, od_law_stock, kV_law_stock, doc_law_stock, pm_law_stock, an_law_stock, cc_law_stock, ct_law_stock, osl_law_stock, e_law_stock, lk_law_stock, hcd_law_stock, kp_law_stock⟩ := fun_out F_law_stock
 have hg_law_stock : mg "_law_stock" = some (.ref (He.fAd K ("_law_stock", none))) := He.glo_ok X G (cd.fact 16 (f := .glo "_law_stock") rfl)
 obtain ⟨fd_law_order, F_law_order⟩ := cd.def_ 17 (d := d_law_order) rfl
 obtain ⟨oc_law_order, od_law_order, kV_law_order, doc_law_order, pm_law_order, an_law_order, cc_law_order, ct_law_order, osl_law_order, e_law_order, lk_law_order, hcd_law_order, kp_law_order⟩ := fun_out F_law_order
 have hg_law_order : mg "_law_order" = some (.ref (He.fAd K ("_law_order", none))) := He.glo_ok X G (cd.fact 17 (f := .glo "_law_order") rfl)
 obtain ⟨fd_law_asked, F_law_asked⟩ := cd.def_ 18 (d := d_law_asked) rfl
 obtain ⟨oc_law_asked, od_law_asked, kV_law_asked, doc_law_asked, pm_law_asked, an_law_asked, cc_law_asked, ct_law_asked, osl_law_asked, e_law_asked, lk_law_asked, hcd_law_asked, kp_law_asked⟩ := fun_out F_law_asked
 have hg_law_asked : mg "_law_asked" = some (.ref (He.fAd K ("_law_asked", none))) := He.glo_ok X G (cd.fact 18 (f := .glo "_law_asked") rfl)
 obtain ⟨fd_law_text, F_law_text⟩ := cd.def_ 19 (d := d_law_text) rfl
 obtain ⟨oc_law_text, od_law_text, kV_law_text, doc_law_text, pm_law_text, an_law_text, cc_law_text, ct_law_text, osl_law_text, e_law_text, lk_law_text, hcd_law_text, kp_law_text⟩ := fun_out F_law_text
 have hg_law_text : mg "_law_text" = some (.ref (He.fAd K ("_law_text", none))) := He.glo_ok X G (cd.fact 19 (f := .glo "_law_text") rfl)
 obtain ⟨fd_law_bent_text, F_law_bent_text⟩ := cd.def_ 20 (d := d_law_bent_text) rfl
 obtain ⟨oc_law_bent_text, od_law_bent_text, kV_law_bent_text, doc_law_bent_text, pm_law_bent_text, an_law_bent_text, cc_law_bent_text, ct_law_bent_text, osl_law_bent_text, e_law_bent_text, lk_law_bent_text, hcd_law_bent_text, kp_law_bent_text⟩ := fun_out F_law_bent_text
 have hg_law_bent_text : mg "_law_bent_text" = some (.ref (He.fAd K ("_law_bent_text", none))) := He.glo_ok X G (cd.fact 20 (f := .glo "_law_bent_text") rfl)
 obtain ⟨fd_law_bent, F_law_bent⟩ := cd.def_ 21 (d := d_law_bent) rfl
 obtain ⟨oc_law_bent, od_law_bent, kV_law_bent, doc_law_bent, pm_law_bent, an_law_bent, cc_law_bent, ct_law_bent, osl_law_bent, e_law_bent, lk_law_bent, hcd_law_bent, kp_law_bent⟩ := fun_out F_law_bent
 have hg_law_bent : mg "_law_bent" = some (.ref (He.fAd K ("_law_bent", none))) := He.glo_ok X G (cd.fact 21 (f := .glo "_law_bent") rfl)
 obtain ⟨fd_law_name, F_law_name⟩ := cd.def_ 22 (d := d_law_name) rfl
 obtain ⟨oc_law_name, od_law_name, kV_law_name, doc_law_name, pm_law_name, an_law_name, cc_law_name, ct_law_name, osl_law_name, e_law_name, lk_law_name, hcd_law_name, kp_law_name⟩ := fun_out F_law_name
 have hg_law_name : mg "_law_name" = some (.ref (He.fAd K ("_law_name", none))) := He.glo_ok X G (cd.fact 22 (f := .glo "_law_name") rfl)
 obtain ⟨fd_law_row, F_law_row⟩ := cd.def_ 23 (d := d_law_row) rfl
 obtain ⟨oc_law_row, od_law_row, kV_law_row, doc_law_row, pm_law_row, an_law_row, cc_law_row, ct_law_row, osl_law_row, e_law_row, lk_law_row, hcd_law_row, kp_law_row⟩ := fun_out F_law_row
 have hg_law_row : mg "_law_row" = some (.ref (He.fAd K ("_law_row", none))) := He.glo_ok X G (cd.fact 23 (f := .glo "_law_row") rfl)
 obtain ⟨fd_law_due, F_law_due⟩ := cd.def_ 24 (d := d_law_due) rfl
 obtain ⟨oc_law_due, od_law_due, kV_law_due, doc_law_due, pm_law_due, an_law_due, cc_law_due, ct_law_due, osl_law_due, e_law_due, lk_law_due, hcd_law_due, kp_law_due⟩ := fun_out F_law_due
 have hg_law_due : mg "_law_due" = some (.ref (He.fAd K ("_law_due", none))) := He.glo_ok X G (cd.fact 24 (f := .glo "_law_due") rfl)
 obtain ⟨fd_law, F_law⟩ := cd.def_ 25 (d := d_law) rfl
 obtain ⟨oc_law, od_law, kV_law, doc_law, pm_law, an_law, cc_law, ct_law, osl_law, e_law, lk_law, hcd_law, kp_law⟩ := fun_out F_law
 have hg_law : mg "law" = some (.ref (He.fAd K ("law", none))) := He.glo_ok X G (cd.fact 25 (f := .glo "law") rfl)
 have gc_NoNet : mg "NoNet" = some (.ref (He.ga K "NoNet")) := He.glo_ok X G (cd.fact 42 (f := .glo "NoNet") rfl)
 have gc_NoPlace : mg "NoPlace" = some (.ref (He.ga K "NoPlace")) := He.glo_ok X G (cd.fact 43 (f := .glo "NoPlace") rfl)
 have gc_NoRoad : mg "NoRoad" = some (.ref (He.ga K "NoRoad")) := He.glo_ok X G (cd.fact 44 (f := .glo "NoRoad") rfl)
 have gc_NoRow : mg "NoRow" = some (.ref (He.ga K "NoRow")) := He.glo_ok X G (cd.fact 45 (f := .glo "NoRow") rfl)
 have gc_NoRule : mg "NoRule" = some (.ref (He.ga K "NoRule")) := He.glo_ok X G (cd.fact 46 (f := .glo "NoRule") rfl)
 have gc_NoStock : mg "NoStock" = some (.ref (He.ga K "NoStock")) := He.glo_ok X G (cd.fact 47 (f := .glo "NoStock") rfl)
 have gc_NoText : mg "NoText" = some (.ref (He.ga K "NoText")) := He.glo_ok X G (cd.fact 48 (f := .glo "NoText") rfl)
 have gc_Shared : mg "Shared" = some (.ref (He.ga K "Shared")) := He.glo_ok X G (cd.fact 49 (f := .glo "Shared") rfl)
 have gc_Twice : mg "Twice" = some (.ref (He.ga K "Twice")) := He.glo_ok X G (cd.fact 50 (f := .glo "Twice") rfl)
 have gc_WeaveError : mg "WeaveError" = some (.ref (He.ga K "WeaveError")) := He.glo_ok X G (cd.fact 51 (f := .glo "WeaveError") rfl)
 have E_NoStock : ExcM K mg "NoStock" := excM_of (cd.fact 52 (f := .exc "NoStock") rfl) gc_NoStock
 have hmore : exB K = true := c.more
 unfold exB at hmore
 obtain ⟨hb_0, hmore⟩ := Bool.and_eq_true_iff.mp hmore
 obtain ⟨hb_1, hmore⟩ := Bool.and_eq_true_iff.mp hmore
 obtain ⟨hb_2, hmore⟩ := Bool.and_eq_true_iff.mp hmore
 obtain ⟨hb_3, hmore⟩ := Bool.and_eq_true_iff.mp hmore
 obtain ⟨hb_4, hmore⟩ := Bool.and_eq_true_iff.mp hmore
 obtain ⟨hb_5, hmore⟩ := Bool.and_eq_true_iff.mp hmore
 obtain ⟨hb_6, hmore⟩ := Bool.and_eq_true_iff.mp hmore
 obtain ⟨hb_7, hmore⟩ := Bool.and_eq_true_iff.mp hmore
 obtain ⟨hb_8, hmore⟩ := Bool.and_eq_true_iff.mp hmore
 have hb_9 := hmore
 obtain ⟨fd_law_kinds, F_law_kinds⟩ := cd.def_ 26 (d := d_law_kinds) rfl
 obtain ⟨oc_law_kinds, od_law_kinds, kV_law_kinds, doc_law_kinds, pm_law_kinds, an_law_kinds, cc_law_kinds, ct_law_kinds, osl_law_kinds, e_law_kinds, lk_law_kinds, hcd_law_kinds, kp_law_kinds⟩ := fun_out F_law_kinds
 have hg_law_kinds : mg "_law_kinds" = some (.ref (He.fAd K ("_law_kinds", none))) := He.glo_ok X G (cd.fact 53 (f := .glo "_law_kinds") rfl)
 obtain ⟨fd_NoText_init, F_NoText_init⟩ := cd.def_ 27 (d := d_NoText_init) rfl
 obtain ⟨oc_NoText_init, od_NoText_init, kV_NoText_init, doc_NoText_init, pm_NoText_init, an_NoText_init, cc_NoText_init, ct_NoText_init, osl_NoText_init, e_NoText_init, lk_NoText_init, hcd_NoText_init, kp_NoText_init⟩ := fun_out F_NoText_init
 obtain ⟨fd_Twice_init, F_Twice_init⟩ := cd.def_ 28 (d := d_Twice_init) rfl
 obtain ⟨oc_Twice_init, od_Twice_init, kV_Twice_init, doc_Twice_init, pm_Twice_init, an_Twice_init, cc_Twice_init, ct_Twice_init, osl_Twice_init, e_Twice_init, lk_Twice_init, hcd_Twice_init, kp_Twice_init⟩ := fun_out F_Twice_init
 have efa : fa = He.fAd K ("law", none) := Value.ref.inj (Option.some.inj (hfa.symm.trans hg_law))
 subst efa
 have hb := FunD.bindsA (ps := ["_law_script"]) F_law fun _ _ _ _ _ _ us hl => match us, hl with | [_], _ => rfl
 refine ⟨fd_law, cs K, spM K (tT K w) 1 m_law, fun p hp => ?_, fun p hp => ?_, fun p hp => ?_, fun s v => hb s [v] rfl, fun H a ns hl hbits hH hS => ?_, fun base KB GB TB => ?_⟩
 ·obtain ⟨q, hq, rfl⟩ := List.mem_map.mp hp
  exact c.empty q hq
 ·obtain ⟨q, hq, rfl⟩ := List.mem_map.mp hp
  exact c.out q hq
 ·obtain ⟨q, hq, rfl⟩ := List.mem_map.mp hp
  exact PySem.W.codeHd_of_K X (c.hd q hq)
 ·refine law_start good hl hbits (fun P hP => ?_) hS
  obtain ⟨p, hp, rfl⟩ := List.mem_map.mp hP
  exact hH p hp
 ·have _ := KB
  have C_law_asked_0 : Cat K mg "NoText" (csOf cst_law_asked_0) := csB_ok hb_0 gc_NoText (fun r h => by simp only [cst_law_asked_0, List.mem_cons, List.not_mem_nil, or_false] at h; rcases h with rfl | rfl | rfl <;> assumption)
  have C_law_asked_1 : Cat K mg "Twice" (csOf cst_law_asked_1) := csB_ok hb_3 gc_Twice (fun r h => by simp only [cst_law_asked_1, List.mem_cons, List.not_mem_nil, or_false] at h; rcases h with rfl | rfl <;> assumption)
  have C_law_asked_2 : Cat K mg "WeaveError" (csOf cst_law_asked_2) := csB_ok hb_6 gc_WeaveError (fun r h => by simp only [cst_law_asked_2, List.mem_cons, List.not_mem_nil, or_false] at h; rcases h with rfl <;> assumption)
  have T_law_asked_0 : KdOk PySem.Challenge.rw_weave_k06_stocks_as_texts.prog w K mg base 1 "_law_kinds" (kbOf kbt_law_asked_0) := kd_law_kinds x x.b_ValueError lk_law_kinds hcd_law_kinds kp_law_kinds hg_law_kinds hb_1 (fun c h hne => by simp only [List.mem_cons, List.not_mem_nil, or_false] at h; rcases h with rfl | rfl | rfl | rfl | rfl | rfl | rfl | rfl | rfl | rfl <;> first | assumption | exact absurd rfl hne) (fun r h => by simp only [kbt_law_asked_0, List.mem_cons, List.not_mem_nil, or_false] at h; rcases h with rfl <;> assumption)
  have T_law_asked_1 : KdOk PySem.Challenge.rw_weave_k06_stocks_as_texts.prog w K mg base 1 "_law_kinds" (kbOf kbt_law_asked_1) := kd_law_kinds x x.b_ValueError lk_law_kinds hcd_law_kinds kp_law_kinds hg_law_kinds hb_4 (fun c h hne => by simp only [List.mem_cons, List.not_mem_nil, or_false] at h; rcases h with rfl | rfl | rfl | rfl | rfl | rfl | rfl | rfl | rfl | rfl <;> first | assumption | exact absurd rfl hne) (fun r h => by simp only [kbt_law_asked_1, List.mem_cons, List.not_mem_nil, or_false] at h; rcases h with rfl <;> assumption)
  have T_law_asked_2 : KdOk PySem.Challenge.rw_weave_k06_stocks_as_texts.prog w K mg base 1 "_law_kinds" (kbOf kbt_law_asked_2) := kd_law_kinds x x.b_ValueError lk_law_kinds hcd_law_kinds kp_law_kinds hg_law_kinds hb_7 (fun c h hne => by simp only [List.mem_cons, List.not_mem_nil, or_false] at h; rcases h with rfl | rfl | rfl | rfl | rfl | rfl | rfl | rfl | rfl | rfl <;> first | assumption | exact absurd rfl hne) (fun r h => by simp only [kbt_law_asked_2, List.mem_cons, List.not_mem_nil, or_false] at h; rcases h with rfl <;> assumption)
  have A_law_asked_0 : XfA K mg "at" (kbOf kbt_law_asked_0) := xfaB_ok hb_2 (fun r h => by simp only [kbt_law_asked_0, List.mem_cons, List.not_mem_nil, or_false] at h; rcases h with rfl <;> assumption)
  have A_law_asked_1 : XfA K mg "name" (kbOf kbt_law_asked_1) := xfaB_ok hb_5 (fun r h => by simp only [kbt_law_asked_1, List.mem_cons, List.not_mem_nil, or_false] at h; rcases h with rfl <;> assumption)
  have E_NoText : ExcF PySem.Challenge.rw_weave_k06_stocks_as_texts.prog w K mg base 1 "NoText" "at" := ef_NoText gc_NoText hb_8 rfl lk_NoText_init hcd_NoText_init
  have E_Twice : ExcF PySem.Challenge.rw_weave_k06_stocks_as_texts.prog w K mg base 1 "Twice" "name" := ef_Twice gc_Twice hb_9 rfl lk_Twice_init hcd_Twice_init
  have D_is_tuple := ok_is_tuple (P := PySem.Challenge.rw_weave_k06_stocks_as_texts.prog) (w := w) (base := base) (T := tT K w) x rfl lk_is_tuple hcd_is_tuple kp_is_tuple hg_is_tuple
  have tb_rises := TB (He.cT K ("rises", none)) (List.mem_map.mpr ⟨("rises", none), by simp [tfs], rfl⟩)
  have ec_rises : (He.cT K ("rises", none)).1 = cc_rises := He.codeOf_eq (K := K) (p := ("rises", none)) lk_rises rfl
  have hT_rises : (He.cT K ("rises", none)).2 ∈ tT K w := List.mem_map.mpr ⟨_, List.mem_map.mpr ⟨("rises", none), by simp [tfs], rfl⟩, rfl⟩
  rw [ec_rises] at tb_rises
  have D_rises := ok_rises (P := PySem.Challenge.rw_weave_k06_stocks_as_texts.prog) (w := w) (base := base) (T := tT K w) (tabB tb_rises) hT_rises x rfl lk_rises hcd_rises kp_rises hg_rises
  have tb_is_spelled := TB (He.cT K ("is_spelled", none)) (List.mem_map.mpr ⟨("is_spelled", none), by simp [tfs], rfl⟩)
  have ec_is_spelled : (He.cT K ("is_spelled", none)).1 = cc_is_spelled := He.codeOf_eq (K := K) (p := ("is_spelled", none)) lk_is_spelled rfl
  have hT_is_spelled : (He.cT K ("is_spelled", none)).2 ∈ tT K w := List.mem_map.mpr ⟨_, List.mem_map.mpr ⟨("is_spelled", none), by simp [tfs], rfl⟩, rfl⟩
  rw [ec_is_spelled] at tb_is_spelled
  have D_is_spelled := ok_is_spelled (P := PySem.Challenge.rw_weave_k06_stocks_as_texts.prog) (w := w) (base := base) (T := tT K w) (tabB tb_is_spelled) hT_is_spelled x rfl lk_is_spelled hcd_is_spelled kp_is_spelled hg_is_spelled
  have D_is_name := ok_is_name (P := PySem.Challenge.rw_weave_k06_stocks_as_texts.prog) (w := w) (base := base) (T := tT K w) x rfl lk_is_name hcd_is_name kp_is_name hg_is_name D_is_spelled
  have D_is_spec := ok_is_spec (P := PySem.Challenge.rw_weave_k06_stocks_as_texts.prog) (w := w) (base := base) (T := tT K w) x rfl lk_is_spec hcd_is_spec kp_is_spec hg_is_spec D_is_tuple D_is_name
  have tb_are_specs := TB (He.cT K ("are_specs", none)) (List.mem_map.mpr ⟨("are_specs", none), by simp [tfs], rfl⟩)
  have ec_are_specs : (He.cT K ("are_specs", none)).1 = cc_are_specs := He.codeOf_eq (K := K) (p := ("are_specs", none)) lk_are_specs rfl
  have hT_are_specs : (He.cT K ("are_specs", none)).2 ∈ tT K w := List.mem_map.mpr ⟨_, List.mem_map.mpr ⟨("are_specs", none), by simp [tfs], rfl⟩, rfl⟩
  rw [ec_are_specs] at tb_are_specs
  have D_are_specs := ok_are_specs (P := PySem.Challenge.rw_weave_k06_stocks_as_texts.prog) (w := w) (base := base) (T := tT K w) (tabB tb_are_specs) hT_are_specs x rfl lk_are_specs hcd_are_specs kp_are_specs hg_are_specs D_is_spec
  have D_is_entry := ok_is_entry (P := PySem.Challenge.rw_weave_k06_stocks_as_texts.prog) (w := w) (base := base) (T := tT K w) x rfl lk_is_entry hcd_is_entry kp_is_entry hg_is_entry D_is_tuple D_is_name D_are_specs
  have tb_is_stock := TB (He.cT K ("is_stock", none)) (List.mem_map.mpr ⟨("is_stock", none), by simp [tfs], rfl⟩)
  have ec_is_stock : (He.cT K ("is_stock", none)).1 = cc_is_stock := He.codeOf_eq (K := K) (p := ("is_stock", none)) lk_is_stock rfl
  have hT_is_stock : (He.cT K ("is_stock", none)).2 ∈ tT K w := List.mem_map.mpr ⟨_, List.mem_map.mpr ⟨("is_stock", none), by simp [tfs], rfl⟩, rfl⟩
  rw [ec_is_stock] at tb_is_stock
  have D_is_stock := ok_is_stock (P := PySem.Challenge.rw_weave_k06_stocks_as_texts.prog) (w := w) (base := base) (T := tT K w) (tabB tb_is_stock) hT_is_stock x rfl lk_is_stock hcd_is_stock kp_is_stock hg_is_stock D_rises D_is_entry
  have D_show_spec := ok_show_spec (P := PySem.Challenge.rw_weave_k06_stocks_as_texts.prog) (w := w) (base := base) (T := tT K w) x rfl lk_show_spec hcd_show_spec kp_show_spec hg_show_spec
  have D_read_spec := ok_read_spec (P := PySem.Challenge.rw_weave_k06_stocks_as_texts.prog) (w := w) (base := base) (T := tT K w) x rfl lk_read_spec hcd_read_spec kp_read_spec hg_read_spec
  have D_show_kind := ok_show_kind (P := PySem.Challenge.rw_weave_k06_stocks_as_texts.prog) (w := w) (base := base) (T := tT K w) x rfl lk_show_kind hcd_show_kind kp_show_kind hg_show_kind D_show_spec
  have tb_read_kind := TB (He.cT K ("read_kind", none)) (List.mem_map.mpr ⟨("read_kind", none), by simp [tfs], rfl⟩)
  have ec_read_kind : (He.cT K ("read_kind", none)).1 = cc_read_kind := He.codeOf_eq (K := K) (p := ("read_kind", none)) lk_read_kind rfl
  have hT_read_kind : (He.cT K ("read_kind", none)).2 ∈ tT K w := List.mem_map.mpr ⟨_, List.mem_map.mpr ⟨("read_kind", none), by simp [tfs], rfl⟩, rfl⟩
  rw [ec_read_kind] at tb_read_kind
  have D_read_kind := ok_read_kind (P := PySem.Challenge.rw_weave_k06_stocks_as_texts.prog) (w := w) (base := base) (T := tT K w) (tabB tb_read_kind) hT_read_kind x rfl lk_read_kind hcd_read_kind kp_read_kind hg_read_kind D_is_entry D_read_spec
  have D_read_stock := ok_read_stock (P := PySem.Challenge.rw_weave_k06_stocks_as_texts.prog) (w := w) (base := base) (T := tT K w) x rfl lk_read_stock hcd_read_stock kp_read_stock hg_read_stock D_read_kind D_is_stock E_NoText E_Twice E_NoStock
  have D_law_digits := ok_law_digits (P := PySem.Challenge.rw_weave_k06_stocks_as_texts.prog) (w := w) (base := base) (T := tT K w) x rfl lk_law_digits hcd_law_digits kp_law_digits hg_law_digits
  have D_law_take := ok_law_take (P := PySem.Challenge.rw_weave_k06_stocks_as_texts.prog) (w := w) (base := base) (T := tT K w) x rfl lk_law_take hcd_law_take kp_law_take hg_law_take
  have D_law_words := ok_law_words (P := PySem.Challenge.rw_weave_k06_stocks_as_texts.prog) (w := w) (base := base) (T := tT K w) x rfl lk_law_words hcd_law_words kp_law_words hg_law_words D_law_take
  have D_law_stock := ok_law_stock (P := PySem.Challenge.rw_weave_k06_stocks_as_texts.prog) (w := w) (base := base) (T := tT K w) x rfl lk_law_stock hcd_law_stock kp_law_stock hg_law_stock D_law_take D_law_words
  have D_law_order := ok_law_order (P := PySem.Challenge.rw_weave_k06_stocks_as_texts.prog) (w := w) (base := base) (T := tT K w) x rfl lk_law_order hcd_law_order kp_law_order hg_law_order D_law_take
  have D_law_asked := ok_law_asked (P := PySem.Challenge.rw_weave_k06_stocks_as_texts.prog) (w := w) (base := base) (T := tT K w) x rfl lk_law_asked hcd_law_asked kp_law_asked hg_law_asked D_read_stock C_law_asked_0 T_law_asked_0 A_law_asked_0 C_law_asked_1 T_law_asked_1 A_law_asked_1 C_law_asked_2 T_law_asked_2
  have D_law_text := ok_law_text (P := PySem.Challenge.rw_weave_k06_stocks_as_texts.prog) (w := w) (base := base) (T := tT K w) x rfl lk_law_text hcd_law_text kp_law_text hg_law_text
  have D_law_bent_text := ok_law_bent_text (P := PySem.Challenge.rw_weave_k06_stocks_as_texts.prog) (w := w) (base := base) (T := tT K w) x rfl lk_law_bent_text hcd_law_bent_text kp_law_bent_text hg_law_bent_text D_law_take
  have D_law_bent := ok_law_bent (P := PySem.Challenge.rw_weave_k06_stocks_as_texts.prog) (w := w) (base := base) (T := tT K w) x rfl lk_law_bent hcd_law_bent kp_law_bent hg_law_bent D_law_take D_law_bent_text
  have D_law_name := ok_law_name (P := PySem.Challenge.rw_weave_k06_stocks_as_texts.prog) (w := w) (base := base) (T := tT K w) x rfl lk_law_name hcd_law_name kp_law_name hg_law_name
  have D_law_row := ok_law_row (P := PySem.Challenge.rw_weave_k06_stocks_as_texts.prog) (w := w) (base := base) (T := tT K w) x rfl lk_law_row hcd_law_row kp_law_row hg_law_row D_law_name
  have D_law_due := ok_law_due (P := PySem.Challenge.rw_weave_k06_stocks_as_texts.prog) (w := w) (base := base) (T := tT K w) x rfl lk_law_due hcd_law_due kp_law_due hg_law_due D_law_row
  rw [e_law]
  exact fn_law x rfl lk_law hcd_law D_law_digits D_law_stock D_law_bent D_show_kind D_law_text D_law_due D_law_asked D_law_order
end
end K06
open PySem PySem.W PySem.Calls PyProof.Rows
theorem K06.fin (good : ∀ (o : Sh.Ob) (ns : List Int), o.seq = some (ns.map Sh.Vl.int) -> ns.length <= 63 -> (∀ z ∈ ns, Builtin.Int.intBits z <= 1048576) -> ∃ M, K06.m_law [.ref 0] [o] = some (.bl true, M)) : PySem.Challenge.rw_weave_k06_stocks_as_texts.Holds := by
 w_on; o_law
 refine HandSHeadRun.head_any (r := OpenLaw.row PySem.Challenge.rw_weave_k06_stocks_as_texts) (q := view (OpenLaw.row PySem.Challenge.rw_weave_k06_stocks_as_texts).prog [45]) (H := K06.hk) (ob := K06.ob) (M := 4000) (loose := K06.loose) (d := HandSHeadRun.topDef (OpenLaw.row PySem.Challenge.rw_weave_k06_stocks_as_texts).prog 45) (kwd := []) K06.ob_eq
  (by kernel_rfl) (fun s => by kernel_rfl) K06.run (by kernel_rfl) (by kernel_rfl) (by kernel_rfl) (by rfl) (by first | assumption | decide +kernel) (by decide +kernel) ⟨rfl, rfl, rfl, rfl, rfl, by decide +kernel⟩ ?hw ?hc
 case hw => w_witness2
 case hc =>
  refine LamX.walk_ofTsE (l := PySem.Challenge.rw_weave_k06_stocks_as_texts) (n := 63) (k := 12) (x := "_law_script") (CX := fun _ => L2.CX0) rfl (by decide) (by kernel_rfl) ⟨rfl, by decide, by decide⟩ ?F (fun _ _ _ _ _ z => z)
  intro w mg fa h Y G hmg0
  obtain ⟨K, KX, c⟩ := Y
  have hmg : mg ("law" : PySem.Str) = some (.ref fa) := by
   have e : (HandSHeadRun.topDef (OpenLaw.row PySem.Challenge.rw_weave_k06_stocks_as_texts).prog 45).name = ("law" : PySem.Str) := by kernel_rfl
   rw [<- e]
   exact hmg0
  exact ⟨K, KX, K06.lawAt KX G c fa hmg good⟩
set_option maxRecDepth 100000 in
theorem PySem.Challenge.cw_weave_k06_stocks_as_texts_holds : PySem.Challenge.rw_weave_k06_stocks_as_texts.Holds := by
 exact (K06.fin (Pu.law_good K06.sim_law K06.law_w))
