import PyProof.Rows.All
import Wide.All
import OpenK.AllK
import Wide.FinOn
import HandS.ForMost
import HandS.AnyAll
import HandS.Nested
import HandS.GenList
import HandS.Deep
import HandS.IsInst
import HandS.TupAny
import HandS.TupMul
import HandS.Wide
import HandS.Replace
import HandS.Strs
import HandS.Style
import KE.SortData
import KE.KDictPairs
import HandS.HeadHook4
import HandS.HeadWalk
import HandS.Head2
import HandS.HeadEnd
import KE.KStateDown
import Lean
import PySem.Challenge.RW_weave_k01_names_and_stocks
set_option Elab.async false
set_option linter.all false
set_option maxRecDepth 100000
set_option maxHeartbeats 2000000
/-! generator expressions over anything that PI serves, the element anything that PE serves -/
namespace GenE
open PySem PySem.Spec PyProof.Rows L2 NdefX
open GxR (TabB TabG Tabbed inv_tab sh_eta)

abbrev gEnv (X : Cx) (scope : Scope) (C : Addr) (code : Value) : Env := genEnv scope (cloFrom X.env.cells scope.names []) C code builtinsNs X.env
/-- the context of a generator expression's frame: entered at s, its iterators fp -/
abbrev gcx (X : Cx) (N : List Str) (s : Shared) (H : Hp) (cenv : Env) (fp : List Addr) (A' : Around) : Cx :=
  { X with A := A', N := N, s_0 := s, H_0 := H, env := cenv, outer := X.stack, stack := cenv :: X.stack, ex := fp, fn := fun _ => false, calm := true, pn := [], xe := fun _ _ => False }
/-- the scope of a generator expression: its own names, the captured ones, their slots in the def -/
structure GSc (N : List Str) (sc scope : Scope) (own fr : List Str) (js : List Nat) : Prop where
  kind : scope.kind = .function
  co : scope.isCoroutine = false
  cell : ∀ y ∈ scope.names, y.2 ≠ .cell
  dot : scope.names.lookup (".0" : Str) = some NameKind.local
  free : ∀ y ∈ scope.names, y.2 = .free → y.1 ∈ fr
  frk : ∀ x ∈ fr, scope.names.lookup x = some .free
  cap : ∀ x ∈ fr, sc.names.lookup x = some .cell ∨ sc.names.lookup x = some .free
  at_ : js.map (fun j => N[j]?) = fr.map some
  nd : (own ++ fr).Nodup
def gscB (N : List Str) (sc scope : Scope) (own fr : List Str) (js : List Nat) : Bool :=
  decide (scope.kind = .function) && !scope.isCoroutine && scope.names.all (fun y => !decide (y.2 = .cell)) && decide (scope.names.lookup (".0" : Str) = some NameKind.local)
    && scope.names.all (fun y => !decide (y.2 = .free) || decide (y.1 ∈ fr)) && fr.all (fun x => decide (scope.names.lookup x = some .free)) && fr.all (fun x => decide (sc.names.lookup x = some .cell) || decide (sc.names.lookup x = some .free))
    && decide (js.map (fun j => N[j]?) = fr.map some) && decide (own ++ fr).Nodup
theorem gsc_by {N : List Str} {sc scope : Scope} {own fr : List Str} {js : List Nat} (h : gscB N sc scope own fr js = true) : GSc N sc scope own fr js := by
  unfold gscB at h
  simp only [Bool.and_eq_true, Bool.not_eq_true', decide_eq_true_eq, List.all_eq_true, Bool.or_eq_true, decide_eq_false_iff_not] at h
  obtain ⟨⟨⟨⟨⟨⟨⟨⟨h1, h2⟩, h3⟩, h4⟩, h5⟩, h6⟩, h7⟩, h8⟩, h9⟩ := h
  exact ⟨h1, h2, h3, h4, fun y hy e => (h5 y hy).elim (fun z => absurd e z) id, h6, h7, h8, h9⟩
/-- the names at the entry -/
def sg0 (own : List Str) (js : List Nat) (σ : L2.St) : L2.St := own.map (fun _ => none) ++ js.map (slotAt σ)

section
variable {X : Cx} {pins : List (Addr × Obj)} {σ : L2.St} {H : Hp} {s : Shared} {own fr : List Str} {js : List Nat} {scope : Scope}
theorem Inv.gens' {g' : Array GenState} {h' : Heap} {d' : Drawn} {t' : Nat} (I : Inv X pins σ H s) (hg : AllBare g') (k : ∀ b u, s.heap.get? b = some u → h'.get? b = some u) : Inv X pins σ H { s with heap := h', gens := g', drawn := d', toks := t' } := by
  have J := I.kept (t' := t') k
  exact ⟨J.ok, J.os, hg, J.base, J.loc, J.cell, J.free, J.freeC, J.pin, J.hok, J.len⟩
theorem inv_start {fp : List Addr} {A' : Around} {code : Value} {h₁ : Heap} {g' : Array GenState} {tk : Nat} {m : Str → Option Value} (I : Inv X pins σ H s) (S : GSc X.N X.env.scope scope own fr js)
    (hfp : ∀ b ∈ fp, FpOk X pins H b ∧ b < s.heap.objs.size) (hns : h₁.Ns s.heap.objs.size m) (kp : ∀ b o, s.heap.get? b = some o → h₁.get? b = some o) (hg : AllBare g') (hA : A'.handled = none)
    (hfr : A'.frames = some (gEnv X scope s.heap.objs.size code :: X.stack)) :
    Inv (gcx X (own ++ fr) s H (gEnv X scope s.heap.objs.size code) fp A') [] (sg0 own js σ) H { s with heap := h₁, gens := g', toks := tk } := by
  have hfree : ∀ y ∈ scope.names, y.2 = .free → X.env.scope.names.lookup y.1 = some .cell ∨ X.env.scope.names.lookup y.1 = some .free := fun y hy e => S.cap y.1 (S.free y hy e)
  have caps : Caps X (cloFrom X.env.cells scope.names []) fr js := Caps.made I.ok hfree (fun y hy => PySem.mem_of_lookup (S.frk y hy)) S.at_
  have C := cells_of I caps
  have clen := C.len
  have hlocals : ∀ b, b ∈ frs X.stack → b = X.env.locals ∨ b ∈ X.fs := fun b hb => List.mem_cons.mp (I.stkSub b hb)
  have cellK : ∀ {c : Addr} {v : Option Value}, s.heap.IsCell c v → h₁.IsCell c v := fun {c v} ⟨o, ho, hd⟩ => ⟨o, kp _ _ ho, hd⟩
  refine ⟨⟨I.ok.mod, S.kind, I.ok.glob, rfl, Nat.le_refl _, C.inj, fun y hy => ?_, fun y c z _ => ?_, fun _ => hA, hfr, .inr ⟨rfl, rfl⟩, fun b hb => ⟨?_, fun x c e => ?_⟩, I.bs, Nat.le_trans I.ok.bsz I.sz, fun b o e hb => ?_, fun b hb hz => ?_, I.stack, I.stkFree⟩,
    rfl, hg, Un.kept kp, ⟨_, hns, fun i y v e1 e2 e3 => ?_⟩, fun y c e => ?_, I.hok.fresh (Nat.le_refl _), fun y c e => (C.all y c e).1, fun q hq => absurd (show q ∈ ([] : List (Addr × Obj)) ++ [] from hq) (by simp), I.hok.kept kp, ?_⟩
  · have hy : scope.names.lookup y = some .cell ∨ scope.names.lookup y = some .free := hy
    rcases hy with hy | hy
    · exact absurd rfl (S.cell _ (PySem.mem_of_lookup hy))
    · obtain ⟨i, hi⟩ := List.mem_iff_getElem?.mp (S.free _ (PySem.mem_of_lookup hy) rfl)
      obtain ⟨c, hc, _⟩ := C.has i y hi
      exact ⟨c, hc⟩
  · have z : false = true := z
    cases z
  · exact Nat.ne_of_lt (hfp b hb).2
  · have e : (cloFrom X.env.cells scope.names []).lookup x = some c := e
    exact (hfp b hb).1.2.2.2.2.1 x c (caps.sub x c e)
  · have hb' := (hfp b hb).1.2.2.2.1
    rcases hb' with z | z
    · exact I.ok.noex b o e z
    · exact absurd (Nat.lt_of_lt_of_le (Heap.lt_size e) (Nat.le_trans I.ok.bsz z)) (Nat.lt_irrefl _)
  · rcases hlocals b hz with z | z
    · exact (hfp b hb).1.2.1 z
    · exact (hfp b hb).1.2.2.1 z
  · have e1 : (own ++ fr)[i]? = some y := e1
    have e2 : (sg0 own js σ)[i]? = some (some v) := e2
    unfold sg0 at e2
    by_cases h1 : i < own.length
    · rw [List.getElem?_append_left (by rw [List.length_map]; exact h1), List.getElem?_map] at e2
      rw [List.getElem?_eq_getElem h1] at e2
      cases e2
    · rw [List.getElem?_append_right (by omega)] at e1
      rw [List.getElem?_append_right (by rw [List.length_map]; omega), List.length_map] at e2
      obtain ⟨c, hc, hv⟩ := C.has (i - own.length) y e1
      obtain ⟨u, ru, hu⟩ := hv v e2
      refine ⟨u, ru, .inr ⟨.inr ?_, c, hc, cellK hu⟩⟩
      exact S.frk y (List.mem_of_getElem? e1)
  · obtain ⟨v, z⟩ := (C.all y c e).2
    exact ⟨v, cellK z⟩
  · show (sg0 own js σ).length = (own ++ fr).length
    unfold sg0
    rw [List.length_append, List.length_append, List.length_map, clen]
end
/-! ### the run of the frame -/
/-- it sleeps (or has not begun), with at most n items to come -/
def Sl (X : Cx) (pn : List (Addr × Obj)) (fp : List Addr) (tn : Nat → Heap → Prop) (W : Nat → Nat → L2.St → Hp → Prop) (n : Nat) (s : Shared) : Prop :=
  ∃ i m σ H, m ≤ n ∧ Inv X pn σ H s ∧ tn i s.heap ∧ (∀ b ∈ fp, H b = none) ∧ W i m σ H
/-- what is asked at a yield: Yl the items left, the item, the heap; then it may be woken wherever it sleeps -/
def Yg (X : Cx) (pn : List (Addr × Obj)) (fp : List Addr) (tn : Nat → Heap → Prop) (W : Nat → Nat → L2.St → Hp → Prop) (Yl : V → Hp → (Hp → Prop) → Prop) : Protocol := fun n _ v s kap =>
  ∃ x σ H i, RelV x v ∧ Inv X pn σ H s ∧ tn i s.heap ∧ (∀ b ∈ fp, H b = none) ∧ Yl x H (fun H' => ∃ m, m ≤ n ∧ W i m σ H') ∧ ∀ s', Sl X pn fp tn W n s' → kap (.send .none) s'
def Rg (X : Cx) (pn : List (Addr × Obj)) (D : Hp → Prop) : GenEnd := fun _ _ r s => r = .ok .next ∧ ∃ σ H, Inv X pn σ H s ∧ D H
/-- the turns of a generator expression -/
def Turns (J : It) (g : TG) (tt : TT) (te : TE) (D : Hp → Prop) (Yl : V → Hp → (Hp → Prop) → Prop) (W : Nat → Nat → L2.St → Hp → Prop) : Prop :=
  ∀ i m σ H, W i m σ H → (J.stop i H ∧ D H) ∨ (J.go i H ∧ ∃ k, m = k + 1 ∧ ∀ x H', J.yld i H x H' → g x σ H' fun σ2 H2 => tt σ2 H2 fun b H3 =>
    if b = true then te σ2 H3 fun y H4 => Yl y H4 fun H5 => ∃ m', m' ≤ k ∧ W (i + 1) m' σ2 H5 else ∃ m', m' ≤ k ∧ W (i + 1) m' σ2 H3)
section
variable {X : Cx} {pn : List (Addr × Obj)} {elt tg iter : Expr} {ifs : List Expr} {scope : Scope} {pos : Pos} {it : Addr} {fp : List Addr} {tn : Nat → Heap → Prop} {J : It} {g : TG} {tt : TT} {te : TE} {D : Hp → Prop} {Yl : V → Hp → (Hp → Prop) → Prop} {W : Nat → Nat → L2.St → Hp → Prop} {A : Around}
theorem seg_loop (hov : A.over (.compLoop (.GeneratorExp elt [⟨tg, iter, ifs, 0⟩] scope pos) 0 (.ref it) .none X.env) [] = X.A) (hc : X.calm = true) (hco : X.env.scope.isCoroutine = false) (hxe : ∀ e s, X.xe e s → False)
    (T : Turn X.prog X.w X.K tg J fp it tn) (hf : ∀ H, (∀ b ∈ fp, H b = none) → ∀ b ∈ fp, FpOk X pn H b) (hg : PG X tg g) (ht : PTs X ifs tt) (he : PE X elt te) (hYm : ∀ x H A B, (∀ H, A H → B H) → Yl x H A → Yl x H B) (turn : Turns J g tt te D Yl W) :
    ∀ (n m : Nat) (s₀ s : Shared) (i : Nat) (σ : L2.St) (H : Hp), m ≤ n → Inv X pn σ H s → tn i s.heap → (∀ b ∈ fp, H b = none) → W i m σ H →
      Seg (model X.prog X.w) A (Rg X pn D) (Yg X pn fp tn W Yl) n s₀ (.compLoop (.GeneratorExp elt [⟨tg, iter, ifs, 0⟩] scope pos) 0 (.ref it) .none X.env)
        ((model X.prog X.w).den (.compLoop (.GeneratorExp elt [⟨tg, iter, ifs, 0⟩] scope pos) 0 (.ref it) .none X.env)) [] s := by
  have noE : ∀ {α : Type} {t : Sem α} {Q Q' : α → Shared → Prop} {E' : Value → Shared → Prop} {s : Shared}, wpAny (model X.prog X.w) X.A t Q X.xe s → (∀ a s, Q a s → Q' a s) → wpAny (model X.prog X.w) X.A t Q' E' s := fun h k => wpAny_mono h k fun e s z => (hxe e s z).elim
  intro n
  induction n using Nat.strongRecOn with
  | ind n ihn =>
   intro m
   induction m using Nat.strongRecOn with
   | ind m ih =>
    intro s₀ s i σ H hmn I st fr w
    show Seg _ A _ _ _ s₀ _ ((compTurn (.GeneratorExp elt [⟨tg, iter, ifs, 0⟩] scope pos) 0 (.ref it) .none X.env).onRaise (leaving X.env)) [] s
    rw [compTurn_gen, Sem.onRaise_eq_wrap]
    refine seg_bind_wrap (wpAny_standAt ?_)
    rcases turn i m σ H w with ⟨stop, qD⟩ | ⟨go, k, hk, step⟩
    · refine seg_bind_wrap ?_
      rw [hov]
      refine thn (T.done X rfl rfl rfl hc i pn s σ H _ I (hf H fr) st stop) fun r s4 ⟨hr, I4⟩ => ?_
      subst hr
      exact seg_end (.ok .next) ⟨rfl, σ, H, I4, qD⟩
    · refine seg_bind_wrap ?_
      rw [hov]
      refine thn (T.item X rfl rfl rfl hc i pn s σ H _ I (hf H fr) st go) fun r s4 ⟨u, hr, h4⟩ => ?_
      subst hr
      refine seg_bind_wrap ?_
      rw [hov]
      refine thn h4 fun _ s5 ⟨x, H5, I5, r5, y5, st5, fr5⟩ => ?_
      have I5' := I5.pinned (hf H5 fr5) (T.obj _ _ st5)
      refine seg_bind_wrap ?_
      rw [hov]
      refine noE (hg.run _ s5 σ H5 x u _ I5' r5 (step x H5 y5)) fun _ s6 ⟨σ6, H6, I6, q6⟩ => ?_
      refine seg_bind_wrap ?_
      rw [hov]
      refine noE (ht.run _ s6 σ6 H6 _ I6 q6) fun b s7 ⟨H7, I7, q7⟩ => ?_
      have keepT : ∀ {σ' : L2.St} {H' : Hp} {s' : Shared}, Inv X (pn ++ pinsAt fp s5.heap) σ' H' s' → Inv X pn σ' H' s' ∧ tn (i + 1) s'.heap ∧ ∀ b ∈ fp, H' b = none := fun {σ' H' s'} I' => by
        refine ⟨I'.unpinned, T.keep _ _ _ st5 fun b hb o e => (I'.pin (b, o) (List.mem_append_right _ (List.mem_append_right _ (mem_pinsAt hb e)))).1, fun b hb => ?_⟩
        obtain ⟨o, e, d⟩ := T.obj _ _ st5 b hb
        exact (I'.pin (b, o) (List.mem_append_right _ (List.mem_append_right _ (mem_pinsAt hb e)))).2.1
      cases b with
      | false =>
        simp only [Bool.false_eq_true, if_false] at q7 ⊢
        obtain ⟨m', hm', w'⟩ := q7
        obtain ⟨J7, t7, f7⟩ := keepT I7
        exact seg_again rfl (ih m' (by omega) s₀ s7 (i + 1) σ6 H7 (by omega) J7 t7 f7 w')
      | true =>
        simp only [if_true] at q7 ⊢
        obtain ⟨n', rfl⟩ : ∃ n', n = n' + 1 := ⟨n - 1, by omega⟩
        have hy : ∀ v, yieldOut X.env v = yieldValue v := fun v => by simp only [yieldOut, hco, Bool.false_eq_true, if_false]
        simp only [hy]
        rw [Sem.bind_eq_wrap', Sem.bind_eq_wrap', Sem.wrap_wrap, Sem.wrap_wrap]
        refine seg_wrap ?_
        rw [hov]
        refine noE (he.run _ s7 σ6 H7 _ I7 q7) fun v s8 ⟨y, H8, I8, r8, q8⟩ => ?_
        obtain ⟨J8, t8, f8⟩ := keepT I8
        refine seg_at (seg_yield rfl rfl rfl ⟨y, σ6, H8, i + 1, r8, J8, t8, f8, hYm _ _ _ _ (fun H5 ⟨m', h1, h2⟩ => ⟨m', by omega, h2⟩) q8, fun s' hs => ?_⟩)
        obtain ⟨i', m', σ', H', hm', I', t', f', w'⟩ := hs
        exact seg_again rfl (ihn n' (by omega) m' s' s' i' σ' H' hm' I' t' f' w')
/-- .. from its start -/
theorem seg_start (hov : A.over (.compLoop (.GeneratorExp elt [⟨tg, iter, ifs, 0⟩] scope pos) 0 (.ref it) .none X.env) [] = X.A) (hc : X.calm = true) (hco : X.env.scope.isCoroutine = false) (hxe : ∀ e s, X.xe e s → False)
    (T : Turn X.prog X.w X.K tg J fp it tn) (hf : ∀ H, (∀ b ∈ fp, H b = none) → ∀ b ∈ fp, FpOk X pn H b) (hg : PG X tg g) (ht : PTs X ifs tt) (he : PE X elt te) (hYm : ∀ x H A B, (∀ H, A H → B H) → Yl x H A → Yl x H B) (turn : Turns J g tt te D Yl W)
    {n : Nat} {s₀ s : Shared} (h : Sl X pn fp tn W n s) :
      Seg (model X.prog X.w) A (Rg X pn D) (Yg X pn fp tn W Yl) n s₀ (.compStart (.GeneratorExp elt [⟨tg, iter, ifs, 0⟩] scope pos) 0 (.ref it) .none X.env)
        ((model X.prog X.w).den (.compStart (.GeneratorExp elt [⟨tg, iter, ifs, 0⟩] scope pos) 0 (.ref it) .none X.env)) [] s := by
  obtain ⟨i, m, σ, H, hm, I, t, f, w⟩ := h
  have loop := seg_loop hov hc hco hxe T hf hg ht he hYm turn n m s₀ s i σ H hm I t f w
  show Seg _ A _ _ _ s₀ _ ((compStart (.GeneratorExp elt [⟨tg, iter, ifs, 0⟩] scope pos) 0 (.ref it) .none X.env).onRaise (leaving X.env)) [] s
  unfold compStart
  rw [Sem.onRaise_eq_wrap]
  show Seg _ A _ _ _ s₀ _ ((ask >>= _).wrap _ _ _ _) [] s
  refine seg_bind_wrap (wpAny_askSetting ?_)
  split
  · exact seg_again rfl loop
  · first
      | exact seg_bind_wrap (wpAny_rule (seg_bind_wrap (wpAny_standAt (seg_bind_wrap (T.self _ i s _ _ t (seg_again rfl loop))))))
      | (refine seg_bind_wrap (wpAny_rule ?_); show Seg _ A _ _ _ s₀ _ ((standAt iter.pos >>= _).wrap _ _ _ _) [] s; exact seg_bind_wrap (wpAny_standAt (seg_bind_wrap (T.self _ i s _ _ t (seg_again rfl loop)))))
end
/-! ### all, any: the consumer -/
/-- the generator stands at a, with the number g, and goes on -/
def Ready (X : Cx) (pn : List (Addr × Obj)) (fp : List Addr) (tn : Nat → Heap → Prop) (W : Nat → Nat → L2.St → Hp → Prop) (Yl : V → Hp → (Hp → Prop) → Prop) (D : Hp → Prop) (A : Around) (a : Addr) (g n : Nat) (s : Shared) : Prop :=
  Sl X pn fp tn W n s ∧ ∃ gs, s.gens[g]? = some gs ∧ ∀ s', Sl X pn fp tn W n s' → gs.Goes (model X.prog X.w) A (Rg X pn D) (Yg X pn fp tn W Yl) n (.send .none) s'
section
variable {X : Cx} {oa : Obj} {fp : List Addr} {tn : Nat → Heap → Prop} {D : Hp → Prop} {Yl : V → Hp → (Hp → Prop) → Prop} {W : Nat → Nat → L2.St → Hp → Prop} {A : Around} {a : Addr} {g : Nat}
theorem Sl.gens {n : Nat} {s : Shared} {g' : Array GenState} {pn : List (Addr × Obj)} (h : Sl X pn fp tn W n s) (hb : AllBare g') : Sl X pn fp tn W n { s with gens := g' } := by
  obtain ⟨i, m, σ, H, hm, I, t, f, w⟩ := h
  exact ⟨i, m, σ, H, hm, Inv.gens' (d' := s.drawn) (t' := s.toks) I hb fun _ _ e => e, t, f, w⟩
theorem Sl.bare {n : Nat} {s : Shared} {pn : List (Addr × Obj)} (h : Sl X pn fp tn W n s) : AllBare s.gens := by
  obtain ⟨i, m, σ, H, hm, I, t, f, w⟩ := h
  exact I.bare
/-- one less -/
def Les (n : Nat) (P : Nat → Prop) : Prop := match n with
  | 0 => False
  | k + 1 => P k
/-- one next: an item or the end -/
theorem next_ready {Q : Option Value → Shared → Prop} {E : Value → Shared → Prop} {n : Nat} {s : Shared} (hh : A.handled = none) (hroom : A.depth < recursionLimit) (hog : ∀ h : Heap, h.get? a = some oa → h.IsGen a g) (h : Ready X [(a, oa)] fp tn W Yl D A.in1 a g n s)
    (hY : ∀ x v σ H i s' gs, RelV x v → Inv X [(a, oa)] σ H s' → tn i s'.heap → (∀ b ∈ fp, H b = none) → Yl x H (fun H' => ∃ m, m ≤ n - 1 ∧ W i m σ H') → s'.gens[g]? = some gs →
      (∀ s'', Sl X [(a, oa)] fp tn W (n - 1) s'' → Les n fun k => gs.Goes (model X.prog X.w) A.in1 (Rg X [(a, oa)] D) (Yg X [(a, oa)] fp tn W Yl) k (.send .none) s'') → Q (some v) s')
    (hD : ∀ σ H s', Inv X [(a, oa)] σ H s' → D H → Q none s') : wpAny (model X.prog X.w) A (pyNext (.ref a)) Q E s := by
  obtain ⟨hsl, gs, hgs, hgo⟩ := h
  obtain ⟨i, m, σ, H, hm, I, t, f, w⟩ := id hsl
  have hga : s.heap.IsGen a g := hog _ (I.pin (a, oa) (by simp)).1
  have hgl : g < s.gens.size := (Array.getElem?_eq_some_iff.mp hgs).1
  refine GenW.wpAny_gsz (n := g + 1) hgl ?_
  refine wpAny_pyNext_genexpQ (P := fun _ _ s₁ => ∃ σ H, Inv X [(a, oa)] σ H s₁ ∧ D H) hh I.nolimit hroom hga hgs (hgo _ (Sl.gens hsl (allBare_setGen hsl.bare rfl))) (fun v s₁ gs' hb hv => ?_) (fun s₁ hp h' hk => ?_)
  · intro hsz
    obtain ⟨x, σ1, H1, i1, rx, I1, t1, f1, y1, hk⟩ := hv
    have hsz1 : g < s₁.gens.size := by
      have q : (s₁.setGen g gs').gens.size = s₁.gens.size := GenW.setGen_size _ _ _
      have hsz' : g + 1 ≤ (s₁.setGen g gs').gens.size := hsz
      omega
    refine hY x v σ1 H1 i1 _ gs' rx (Inv.gens' (d' := s₁.drawn) (t' := s₁.toks) I1 (allBare_setGen I1.bare hb) fun _ _ e => e) t1 f1 y1 (setGen_at hsz1) fun s'' hs => ?_
    have q := hk s'' hs
    cases n with
    | zero => exact q
    | succ k => exact q
  · intro _
    obtain ⟨σ1, H1, I1, d1⟩ := hp
    exact hD σ1 H1 _ (Inv.gens' (s := s₁) (d' := s₁.drawn) (t' := s₁.toks) I1 (allBare_setGen I1.bare rfl) hk) d1
/-- all: Yl for a test: go on where it is True, else Q -/
def yAll (Q : VK) : V → Hp → (Hp → Prop) → Prop := fun x H C => ∃ b, x = .bl b ∧ (b = true → C H) ∧ (b = false → Q (.bl false) H)
def yAny (Q : VK) : V → Hp → (Hp → Prop) → Prop := fun x H C => ∃ b, x = .bl b ∧ (b = false → C H) ∧ (b = true → Q (.bl true) H)
theorem yAll_mono {Q : VK} : ∀ x H A B, (∀ H, A H → B H) → yAll Q x H A → yAll Q x H B := fun x H A B k ⟨b, e, h1, h2⟩ => ⟨b, e, fun z => k _ (h1 z), h2⟩
theorem yAny_mono {Q : VK} : ∀ x H A B, (∀ H, A H → B H) → yAny Q x H A → yAny Q x H B := fun x H A B k ⟨b, e, h1, h2⟩ => ⟨b, e, fun z => k _ (h1 z), h2⟩
theorem all_loop {Q : VK} {R : Result → Shared → Prop} (hh : A.handled = none) (hroom : A.depth < recursionLimit) (hog : ∀ h : Heap, h.get? a = some oa → h.IsGen a g)
    (hR : ∀ b σ H s', Inv X [(a, oa)] σ H s' → Q (.bl b) H → R (.ok (.ret (.bool b))) s') :
    ∀ (n : Nat) (s : Shared), Ready X [(a, oa)] fp tn W (yAll Q) (fun H => Q (.bl true) H) A.in1.in1 a g n s → codeAny (model X.prog X.w) A (.builtin "all.loop" ⟨[.ref a], []⟩) R s := by
  intro n
  induction n with
  | zero =>
    intro s hr
    refine codeAny_builtin F.entry_all_loop ?_
    rw [Around.under_plainId F.plain_all_loop _]
    show wpAny _ A.in1 (pyNext (.ref a) >>= _) _ _ s
    refine wpAny_bind (next_ready (A := A.in1) hh hroom hog hr (fun x v σ H i s' gs rx I t f y hgs hk => ?_) fun σ H s' I q => ?_)
    · obtain ⟨b, rfl, y1, y2⟩ := y
      cases rx
      refine wpAny_bind (wpAny_holding (wpAny_truthy_bool ?_))
      refine wpAny_bind (wpAny_letGo ?_)
      cases b with
      | true =>
        obtain ⟨m, hm, w⟩ := y1 rfl
        exact (hk s' ⟨i, m, σ, H, hm, I, t, f, w⟩).elim
      | false =>
        simp only [Bool.false_eq_true, if_false]
        refine wpAny_bind (wpAny_rule (wpAny_pure ?_))
        exact hR false σ H _ I (y2 rfl)
    · refine wpAny_bind (wpAny_rule (wpAny_pure ?_))
      exact hR true σ H _ I q
  | succ n ih =>
    intro s hr
    refine codeAny_builtin F.entry_all_loop ?_
    rw [Around.under_plainId F.plain_all_loop _]
    show wpAny _ A.in1 (pyNext (.ref a) >>= _) _ _ s
    refine wpAny_bind (next_ready (A := A.in1) hh hroom hog hr (fun x v σ H i s' gs rx I t f y hgs hk => ?_) fun σ H s' I q => ?_)
    · obtain ⟨b, rfl, y1, y2⟩ := y
      cases rx
      refine wpAny_bind (wpAny_holding (wpAny_truthy_bool ?_))
      refine wpAny_bind (wpAny_letGo ?_)
      cases b with
      | true =>
        obtain ⟨m, hm, w⟩ := y1 rfl
        simp only [if_true]
        exact wpAny_pure ⟨plainId_quiet F.plain_all_loop _, ih s' ⟨⟨i, m, σ, H, hm, I, t, f, w⟩, gs, hgs, fun s'' hs => hk s'' hs⟩⟩
      | false =>
        simp only [Bool.false_eq_true, if_false]
        refine wpAny_bind (wpAny_rule (wpAny_pure ?_))
        exact hR false σ H _ I (y2 rfl)
    · refine wpAny_bind (wpAny_rule (wpAny_pure ?_))
      exact hR true σ H _ I q
theorem any_loop {Q : VK} {R : Result → Shared → Prop} (hh : A.handled = none) (hroom : A.depth < recursionLimit) (hog : ∀ h : Heap, h.get? a = some oa → h.IsGen a g)
    (hR : ∀ b σ H s', Inv X [(a, oa)] σ H s' → Q (.bl b) H → R (.ok (.ret (.bool b))) s') :
    ∀ (n : Nat) (s : Shared), Ready X [(a, oa)] fp tn W (yAny Q) (fun H => Q (.bl false) H) A.in1.in1 a g n s → codeAny (model X.prog X.w) A (.builtin "any.loop" ⟨[.ref a], []⟩) R s := by
  intro n
  induction n with
  | zero =>
    intro s hr
    refine codeAny_builtin F.entry_any_loop ?_
    rw [Around.under_plainId F.plain_any_loop _]
    show wpAny _ A.in1 (pyNext (.ref a) >>= _) _ _ s
    refine wpAny_bind (next_ready (A := A.in1) hh hroom hog hr (fun x v σ H i s' gs rx I t f y hgs hk => ?_) fun σ H s' I q => ?_)
    · obtain ⟨b, rfl, y1, y2⟩ := y
      cases rx
      refine wpAny_bind (wpAny_holding (wpAny_truthy_bool ?_))
      refine wpAny_bind (wpAny_letGo ?_)
      cases b with
      | false =>
        obtain ⟨m, hm, w⟩ := y1 rfl
        exact (hk s' ⟨i, m, σ, H, hm, I, t, f, w⟩).elim
      | true =>
        simp only [if_true]
        refine wpAny_bind (wpAny_rule (wpAny_pure ?_))
        exact hR true σ H _ I (y2 rfl)
    · refine wpAny_bind (wpAny_rule (wpAny_pure ?_))
      exact hR false σ H _ I q
  | succ n ih =>
    intro s hr
    refine codeAny_builtin F.entry_any_loop ?_
    rw [Around.under_plainId F.plain_any_loop _]
    show wpAny _ A.in1 (pyNext (.ref a) >>= _) _ _ s
    refine wpAny_bind (next_ready (A := A.in1) hh hroom hog hr (fun x v σ H i s' gs rx I t f y hgs hk => ?_) fun σ H s' I q => ?_)
    · obtain ⟨b, rfl, y1, y2⟩ := y
      cases rx
      refine wpAny_bind (wpAny_holding (wpAny_truthy_bool ?_))
      refine wpAny_bind (wpAny_letGo ?_)
      cases b with
      | false =>
        obtain ⟨m, hm, w⟩ := y1 rfl
        simp only [Bool.false_eq_true, if_false]
        exact wpAny_pure ⟨plainId_quiet F.plain_any_loop _, ih s' ⟨⟨i, m, σ, H, hm, I, t, f, w⟩, gs, hgs, fun s'' hs => hk s'' hs⟩⟩
      | true =>
        simp only [if_true]
        refine wpAny_bind (wpAny_rule (wpAny_pure ?_))
        exact hR true σ H _ I (y2 rfl)
    · refine wpAny_bind (wpAny_rule (wpAny_pure ?_))
      exact hR false σ H _ I q
end
/-! ### the expression -/
def Pack (J : It) (g : TG) (tt : TT) (te : TE) (σ : L2.St) (H : Hp) (D : Hp → Prop) (Yl : V → Hp → (Hp → Prop) → Prop) : Prop := ∃ W : Nat → Nat → L2.St → Hp → Prop, (∃ m, W 0 m σ H) ∧ Turns J g tt te D Yl W
section
variable {X : Cx} {pins : List (Addr × Obj)} {σ : L2.St} {H : Hp} {s : Shared} {own fr : List Str} {js : List Nat} {scope : Scope} {elt tg iter : Expr} {ifs : List Expr} {gpos : Pos} {wi : TI} {g : TG} {tt : TT} {te : TE} {c P : Addr} {k : Nat} {D : Hp → Prop} {Yl : V → Hp → (Hp → Prop) → Prop}
/-- what must be known of the parts -/
structure Parts (X : Cx) (k : Nat) (own fr : List Str) (js : List Nat) (scope : Scope) (elt tg iter : Expr) (ifs : List Expr) (wi : TI) (g : TG) (tt : TT) (te : TE) (c P : Addr) : Prop where
  hr : Room (k + 1) X.A
  TB : TabB X.base X.mg c P
  code : X.env.code = .ref c
  S : GSc X.N X.env.scope scope own fr js
  hi : PI X tg iter wi
  hg : ∀ (s : Shared) (H : Hp) (C : Addr) (code : Value) (fp : List Addr) (A' : Around), Room k A' → PG (gcx X (own ++ fr) s H (gEnv X scope C code) fp A') tg g
  ht : ∀ (s : Shared) (H : Hp) (C : Addr) (code : Value) (fp : List Addr) (A' : Around), Room k A' → PTs (gcx X (own ++ fr) s H (gEnv X scope C code) fp A') ifs tt
  he : ∀ (s : Shared) (H : Hp) (C : Addr) (code : Value) (fp : List Addr) (A' : Around), Room k A' → PE (gcx X (own ++ fr) s H (gEnv X scope C code) fp A') elt te
  hs : ∀ v, genFold iter X.env v = pure v
theorem room_over {A : Around} {cenv : Env} {itv : Value} (hr : Room (k + 1) A) : Room k (A.in1.in1.over (.compLoop (.GeneratorExp elt [⟨tg, iter, ifs, 0⟩] scope gpos) 0 itv .none cenv) []) := by
  refine ⟨hr.hd, ?_, ?_⟩
  · have := hr.dp
    show A.depth + 0 + 1 + 3 * k + 5 < _
    omega
  · have := hr.un
    show A.units + 1 + 1 + 0 + 3 + 16 * k + 200 < _
    omega
theorem gen_make {Q' : Value → Shared → Prop} (pp : Parts X k own fr js scope elt tg iter ifs wi g tt te c P) (hYm : ∀ x H A B, (∀ H, A H → B H) → Yl x H A → Yl x H B) (I : Inv X pins σ H s)
    (h : wi σ H fun J H1 => TabG H1 P ∧ ∀ H2, Tabbed P H1 H2 → Pack J g tt te (sg0 own js σ) H2 D Yl)
    (hQ : ∀ (Xg : Cx) (a : Addr) (oa : Obj) (fp : List Addr) (tn : Nat → Heap → Prop) (W : Nat → Nat → L2.St → Hp → Prop) (gn n : Nat) (s5 : Shared), Xg.prog = X.prog → Xg.w = X.w → s5.heap.IsGen a gn → (∀ h : Heap, h.get? a = some oa → h.IsGen a gn) →
      (∀ σ' H' s', Inv Xg [(a, oa)] σ' H' s' → Inv X pins σ H' s') → Ready Xg [(a, oa)] fp tn W Yl D X.A.in1.in1 a gn n s5 → Q' (.ref a) s5) :
    wpAny (model X.prog X.w) X.A (eval (.GeneratorExp elt [⟨tg, iter, ifs, 0⟩] scope gpos) X.env) Q' X.xe s := by
  obtain ⟨hr, TB, hcode, S, hi, hg, ht, he, hs⟩ := pp
  have hfree : ∀ y ∈ scope.names, y.2 = .free → ∃ c, X.env.cells.lookup y.1 = some c := fun y hy e => (S.cap y.1 (S.free y hy e)).elim (fun z => I.ok.has _ (.inl z)) fun z => I.ok.has _ (.inr z)
  refine wpAny_GeneratorExp_make S.co (closure_ok hfree) S.cell S.dot S.kind (by have := hr.dp; omega) ?_ hs
  refine thn (hi.run pins s σ H _ I h) fun v s1 h1 => thn h1 fun itv s2 h2 => ?_
  obtain ⟨it, fp, tn, J, H2, rfl, I2, T, st2, f2, ⟨ps, hP, htr⟩, q⟩ := h2
  refine ⟨I2.nolimit, ?_⟩
  have hPs : s2.heap.get? P = some { cls := .none, data := .fields ps } := I2.hok P _ hP
  have cd : PySem.W.CodeHd s2.heap c P := TB.code.keeps I2.bk
  have cont : ∀ (code : Value) (s3 : Shared) (H3 : Hp), Inv X pins σ H3 s3 → Tabbed P H2 H3 → tn 0 s3.heap →
      wpAny (model X.prog X.w) X.A (builtinsFor X.env.globals X.env.builtins) (fun bi s₄ =>
        ∀ h', h'.Ns s₄.heap.objs.size (fun y => if y = ".0" then some (.ref it) else none) → Heap.SameBut s₄.heap.objs.size (s₄.heap.push { cls := .type "frame", data := .dict #[] }) h' →
          Q' (.ref h'.objs.size) { s₄ with
            gens := s₄.gens.push (.fresh (.compStart (.GeneratorExp elt [⟨tg, iter, ifs, 0⟩] scope gpos) 0 (.ref it) .none (genEnv scope (cloFrom X.env.cells scope.names []) s₄.heap.objs.size code bi X.env))),
            toks := s₄.toks + 1 + 1 + 1,
            heap := h'.push { cls := .type "generator", data := .fields #[.int s₄.gens.size 0, .str "<genexpr>" (s₄.toks + 1), .str (X.env.qual ++ "<genexpr>") (s₄.toks + 1 + 1)] } }) X.xe s3 := by
    intro code s3 H3 I3 hT st3
    obtain ⟨bm, ob, e1, e2, e3, e4, e5, e6, e7, e8⟩ := TB.bm
    refine wpAny_builtinsFor (m := X.mg) (by rw [I3.ok.glob]; exact I3.mod.glob.keeps I3.bk) e1 e2 (I3.bk _ _ e5) e6 e7 e8 ?_
    intro h' hn' hs'
    obtain ⟨W, ⟨m, w0⟩, turn⟩ := q H3 hT
    have hsz : h'.objs.size = s3.heap.objs.size + 1 := by rw [hs'.1, Heap.size_push]
    have keep' : ∀ b o, s3.heap.get? b = some o → h'.get? b = some o := fun b o e => hs'.extBut b o (Nat.ne_of_lt (Heap.lt_size e)) (Heap.get?_push_of_some _ e)
    have fn : ∀ b ∈ fp, H3 b = none := fun b hb => by
      rw [hT.2 b (fun z => by have q := (f2 b hb).1; rw [z, hP] at q; cases q)]
      exact (f2 b hb).1
    have hf3 : ∀ b ∈ fp, FpOk X pins H3 b ∧ b < s3.heap.objs.size := fun b hb => ⟨⟨fn b hb, (f2 b hb).2⟩, by
      obtain ⟨o, e, _⟩ := T.obj _ _ st3 b hb
      exact Heap.lt_size e⟩
    have hfr : (X.A.in1.in1.over (.compLoop (.GeneratorExp elt [⟨tg, iter, ifs, 0⟩] scope gpos) 0 (.ref it) .none (gEnv X scope s3.heap.objs.size code)) []).frames = some (gEnv X scope s3.heap.objs.size code :: X.stack) := by
      have e9 : X.A.in1.in1.frames = some X.stack := I3.ok.frames
      have e10 : X.A.frames = some X.stack := I3.ok.frames
      simp only [Around.over, List.map_nil]
      rw [e10]
      rfl
    have hrA := room_over (k := k) (A := X.A) (elt := elt) (tg := tg) (iter := iter) (ifs := ifs) (scope := scope) (gpos := gpos) (cenv := gEnv X scope s3.heap.objs.size code) (itv := .ref it) hr
    have hgb : AllBare (s3.gens.push (.fresh (.compStart (.GeneratorExp elt [⟨tg, iter, ifs, 0⟩] scope gpos) 0 (.ref it) .none (gEnv X scope s3.heap.objs.size code)))) := I3.bare.push rfl
    have keep5 : ∀ b o, s3.heap.get? b = some o → (h'.push { cls := .type "generator", data := .fields #[.int s3.gens.size 0, .str "<genexpr>" (s3.toks + 1), .str (X.env.qual ++ "<genexpr>") (s3.toks + 1 + 1)] }).get? b = some o := fun b o e => Heap.get?_push_of_some _ (keep' b o e)
    have I5 := inv_start (own := own) (fr := fr) (js := js) (code := code) (fp := fp) (tk := s3.toks + 1 + 1 + 1) I3 S hf3 (hn'.push { cls := .type "generator", data := .fields #[.int s3.gens.size 0, .str "<genexpr>" (s3.toks + 1), .str (X.env.qual ++ "<genexpr>") (s3.toks + 1 + 1)] }) keep5 hgb hrA.hd hfr
    have hget : (h'.push { cls := .type "generator", data := .fields #[.int s3.gens.size 0, .str "<genexpr>" (s3.toks + 1), .str (X.env.qual ++ "<genexpr>") (s3.toks + 1 + 1)] }).get? h'.objs.size = some ({ cls := .type "generator", data := .fields #[.int s3.gens.size 0, .str "<genexpr>" (s3.toks + 1), .str (X.env.qual ++ "<genexpr>") (s3.toks + 1 + 1)] } : Obj) := Heap.get?_push_size _ rfl
    have na : h'.objs.size ∉ frs X.stack := fun z => by
      obtain ⟨_, o, ho, _⟩ := I3.stack.mem z
      have := Heap.lt_size ho
      have h9 : (h'.objs.size : Nat) < s3.heap.objs.size := this
      omega
    have I6 := I5.pins_of (pins' := [(h'.objs.size, { cls := .type "generator", data := .fields #[.int s3.gens.size 0, .str "<genexpr>" (s3.toks + 1), .str (X.env.qual ++ "<genexpr>") (s3.toks + 1 + 1)] })]) (fun p hp => by
      rw [List.mem_singleton.mp hp]
      exact ⟨hget, I3.hok.fresh (by omega), by show h'.objs.size ≠ s3.heap.objs.size; omega, na, fun v z => by cases z⟩)
    have hog : ∀ h : Heap, h.get? h'.objs.size = some ({ cls := .type "generator", data := .fields #[.int s3.gens.size 0, .str "<genexpr>" (s3.toks + 1), .str (X.env.qual ++ "<genexpr>") (s3.toks + 1 + 1)] } : Obj) → h.IsGen h'.objs.size s3.gens.size := fun h e => ⟨_, _, _, e, rfl, rfl, rfl⟩
    have hsl : Sl (gcx X (own ++ fr) s3 H3 (gEnv X scope s3.heap.objs.size code) fp (X.A.in1.in1.over (.compLoop (.GeneratorExp elt [⟨tg, iter, ifs, 0⟩] scope gpos) 0 (.ref it) .none (gEnv X scope s3.heap.objs.size code)) [])) [(h'.objs.size, { cls := .type "generator", data := .fields #[.int s3.gens.size 0, .str "<genexpr>" (s3.toks + 1), .str (X.env.qual ++ "<genexpr>") (s3.toks + 1 + 1)] })] fp tn W m _ := ⟨0, m, _, H3, Nat.le_refl _, I6, T.keep _ _ _ st3 fun b hb o e => keep5 b o e, fn, w0⟩
    refine hQ (gcx X (own ++ fr) s3 H3 (gEnv X scope s3.heap.objs.size code) fp (X.A.in1.in1.over (.compLoop (.GeneratorExp elt [⟨tg, iter, ifs, 0⟩] scope gpos) 0 (.ref it) .none (gEnv X scope s3.heap.objs.size code)) [])) h'.objs.size _ fp tn W s3.gens.size m _ rfl rfl (hog _ hget) hog (fun σ' H' s' J' => ?_) ⟨hsl, _, Array.getElem?_push_size .., fun s' hs' => ⟨rfl, ?_⟩⟩
    · exact I3.call' (ch := fp) J'.os J'.base J'.hok J'.bare fun b hb => ⟨(hf3 b hb).1.2.2.2.1, (hf3 b hb).1.2.1, (hf3 b hb).1.2.2.2.2.1, (hf3 b hb).1.2.2.2.2.2⟩
    · refine seg_start (X := gcx X (own ++ fr) s3 H3 (gEnv X scope s3.heap.objs.size code) fp (X.A.in1.in1.over (.compLoop (.GeneratorExp elt [⟨tg, iter, ifs, 0⟩] scope gpos) 0 (.ref it) .none (gEnv X scope s3.heap.objs.size code)) [])) rfl rfl S.co (fun _ _ z => z) T (fun H' hn b hb => ⟨hn b hb, ?_, ?_, .inl hb, ?_, ?_⟩) (hg _ _ _ _ _ _ hrA) (ht _ _ _ _ _ _ hrA) (he _ _ _ _ _ _ hrA) hYm turn hs'
      · exact (I5.ok.exf b hb).1
      · exact I5.ok.exfs b hb
      · exact (I5.ok.exf b hb).2
      · intro p hp z
        have hp' : p = (h'.objs.size, _) := List.mem_singleton.mp hp
        rw [hp'] at z
        have h9 : (b : Nat) < s3.heap.objs.size := (hf3 b hb).2
        have z9 : h'.objs.size = b := z
        rw [← z9, hsz] at h9
        exact Nat.lt_irrefl _ (Nat.lt_of_succ_lt h9)
  cases hf : codeAmong gpos ps.toList with
  | none =>
    refine wpAny_genexprCodeX hcode (cd.code hPs htr) (cd.tab hPs) hf fun c' h' tk hx hge hlt hco' _ htab' _ => ?_
    obtain ⟨o1, vs, f1, tf, fl, tg', inF, tx, tt', op, _, _, _, _, _, _, _, _, _, htr', _⟩ := hco'
    have J := inv_tab (more := #[rawInt gpos.line, rawInt gpos.col, .ref c']) (h' := h') (g' := s2.gens) (d' := s2.drawn) (t' := tk) I2 hP (fun b o hb e => hx b o hb e) htab'.2 I2.bare
    exact cont _ _ _ J ⟨⟨_, upd_same, htr'⟩, fun b hb => upd_ne hb⟩ (T.keep _ _ _ st2 fun b hb o e => hx b o (fun z => by have q := (f2 b hb).1; rw [z, hP] at q; cases q) e)
  | some cv =>
    exact wpAny_genexprCode_hit hcode (cd.code hPs htr) hf (cont cv s2 H2 I2 ⟨⟨ps, hP, htr⟩, fun b _ => rfl⟩ st2)
/-- all(elt for tg in iter if ..) -/
def tAllG (P : Addr) (own : List Str) (js : List Nat) (wi : TI) (g : TG) (tt : TT) (te : TE) : TE := fun σ H Q => wi σ H fun J H1 => TabG H1 P ∧ ∀ H2, Tabbed P H1 H2 → Pack J g tt te (sg0 own js σ) H2 (fun H => Q (.bl true) H) (yAll Q)
def tAnyG (P : Addr) (own : List Str) (js : List Nat) (wi : TI) (g : TG) (tt : TT) (te : TE) : TE := fun σ H Q => wi σ H fun J H1 => TabG H1 P ∧ ∀ H2, Tabbed P H1 H2 → Pack J g tt te (sg0 own js σ) H2 (fun H => Q (.bl false) H) (yAny Q)
theorem pe_allG {p pos : Pos} (hgl : Gl X "all") (hm : X.mg "all" = none) (pp : Parts X k own fr js scope elt tg iter ifs wi g tt te c P)
    (he : starEach [.GeneratorExp elt [⟨tg, iter, ifs, 0⟩] scope gpos] X.env = (false, eval (.GeneratorExp elt [⟨tg, iter, ifs, 0⟩] scope gpos) X.env) :: starEach [] X.env := by rfl) :
    PE X (.Call (.Name "all" p) [.GeneratorExp elt [⟨tg, iter, ifs, 0⟩] scope gpos] [] pos) (tAllG P own js wi g tt te) := by
  refine ⟨fun pins s σ H Q I h => ?_⟩
  refine wpAny_Call_Name_kw (ld_blt I hgl hm (by decide +kernel : bootBuiltins "all" = some (.builtin "all")) ?_)
  refine PyProof.Rows.callWith_builtin1 ?_ he (by rfl)
  rw [he]
  show wpAny _ _ (spliced ((false, eval (.GeneratorExp elt [⟨tg, iter, ifs, 0⟩] scope gpos) X.env) :: backTo pos (starEach [] X.env))) _ _ s
  refine Calls.spliced_cons (gen_make pp yAll_mono I h fun Xg a oa fp tn W gn n s5 e1 e2 hga hog back hrd => ?_)
  refine Calls.spliced_nil ?_
  refine call_function_tree F.kind_all F.plain_all F.entry_all (F.args_all1 _) ?_
  unfold Builtin.«all»
  refine wpAny_bind (m := oneArg "all" _) (wpAny_pure ?_)
  refine wpAny_bind (wpAny_pyIter_gen hga ?_)
  have L := all_loop (A := X.A) (R := fun r s' => ∃ b H', r = .ok (.ret (.bool b)) ∧ Inv X pins σ H' s' ∧ Q (.bl b) H') pp.hr.hd (by have := pp.hr.dp; omega) hog (fun b σ' H' s' J q => ⟨b, H', rfl, back σ' H' s' J, q⟩) n s5 hrd
  rw [e1, e2] at L
  refine wpAny_pure ⟨plainId_quiet F.plain_all_loop _, codeAny_mono L fun r s' hq => ?_⟩
  obtain ⟨b, H', rfl, J, q⟩ := hq
  exact ⟨.bl b, H', J, rfl, q⟩
theorem pe_anyG {p pos : Pos} (hgl : Gl X "any") (hm : X.mg "any" = none) (pp : Parts X k own fr js scope elt tg iter ifs wi g tt te c P)
    (he : starEach [.GeneratorExp elt [⟨tg, iter, ifs, 0⟩] scope gpos] X.env = (false, eval (.GeneratorExp elt [⟨tg, iter, ifs, 0⟩] scope gpos) X.env) :: starEach [] X.env := by rfl) :
    PE X (.Call (.Name "any" p) [.GeneratorExp elt [⟨tg, iter, ifs, 0⟩] scope gpos] [] pos) (tAnyG P own js wi g tt te) := by
  refine ⟨fun pins s σ H Q I h => ?_⟩
  refine wpAny_Call_Name_kw (ld_blt I hgl hm (by decide +kernel : bootBuiltins "any" = some (.builtin "any")) ?_)
  refine PyProof.Rows.callWith_builtin1 ?_ he (by rfl)
  rw [he]
  show wpAny _ _ (spliced ((false, eval (.GeneratorExp elt [⟨tg, iter, ifs, 0⟩] scope gpos) X.env) :: backTo pos (starEach [] X.env))) _ _ s
  refine Calls.spliced_cons (gen_make pp yAny_mono I h fun Xg a oa fp tn W gn n s5 e1 e2 hga hog back hrd => ?_)
  refine Calls.spliced_nil ?_
  refine call_function_tree F.kind_any F.plain_any F.entry_any (F.args_any1 _) ?_
  unfold Builtin.«any»
  refine wpAny_bind (m := oneArg "any" _) (wpAny_pure ?_)
  refine wpAny_bind (wpAny_pyIter_gen hga ?_)
  have L := any_loop (A := X.A) (R := fun r s' => ∃ b H', r = .ok (.ret (.bool b)) ∧ Inv X pins σ H' s' ∧ Q (.bl b) H') pp.hr.hd (by have := pp.hr.dp; omega) hog (fun b σ' H' s' J q => ⟨b, H', rfl, back σ' H' s' J, q⟩) n s5 hrd
  rw [e1, e2] at L
  refine wpAny_pure ⟨plainId_quiet F.plain_any_loop _, codeAny_mono L fun r s' hq => ?_⟩
  obtain ⟨b, H', rfl, J, q⟩ := hq
  exact ⟨.bl b, H', J, rfl, q⟩
end
end GenE

set_option Elab.async false
set_option linter.all false
set_option maxRecDepth 100000
set_option maxHeartbeats 2000000
/-! a layer of plain values over the hand layer: each piece of the program by a Lean function over values and a store -/
namespace Sh
open PySem PySem.Spec PyProof.Rows L2 NdefX GenE
open GxR (TabB TabG Tabbed)

inductive Vl where
  | non | bl (b : Bool) | int (i : Int) | str (x : Str) | tup (d : Bool) (xs : List Vl) | ref (k : Nat)
/-- what stands in the store: a list; a list that is only read; a dict -/
inductive Ob where
  | lst (xs : List Vl) | fro (xs : List Vl) | dic (kvs : List (Key × Vl))
abbrev Mem := List Ob
abbrev Env := List (Option Vl)
def Ob.mut : Ob → Bool
  | .fro _ => false
  | _ => true

/-- the object at a is known, and has no dict of its own -/
def Nd (H : Hp) (a : Addr) : Prop := ∃ o u, H a = some (.frz o u) ∧ o.dict = none
mutual
inductive Rv (K : PySem.W.Frag) (μ : List Addr) (H : Hp) : Vl → V → Prop
  | non : Rv K μ H .non .non
  | bl (b : Bool) : Rv K μ H (.bl b) (.bl b)
  | int (i : Int) : Rv K μ H (.int i) (.int i)
  | str (x : Str) : Rv K μ H (.str x) (.str x)
  | tup {a : Addr} {d : Bool} {xs : List Vl} {ws : List V} : SqT K H a ws → RvA K μ H xs ws → (d = true → Nd H a) → Rv K μ H (.tup d xs) (.ref a)
  | ref {k : Nat} {a : Addr} : μ[k]? = some a → Rv K μ H (.ref k) (.ref a)
inductive RvA (K : PySem.W.Frag) (μ : List Addr) (H : Hp) : List Vl → List V → Prop
  | nil : RvA K μ H [] []
  | cons {x : Vl} {xs : List Vl} {w : V} {ws : List V} : Rv K μ H x w → RvA K μ H xs ws → RvA K μ H (x :: xs) (w :: ws)
end
/-- the store has grown, tuples stay -/
structure Ext (μ : List Addr) (H : Hp) (μ' : List Addr) (H' : Hp) : Prop where
  pre : ∃ ν, μ' = μ ++ ν
  tup : ∀ b xs, H b = some (.tup xs) → H' b = some (.tup xs)
  frz : ∀ b o u, H b = some (.frz o u) → H' b = some (.frz o u)
theorem Ext.refl (μ : List Addr) (H : Hp) : Ext μ H μ H := ⟨⟨[], by simp⟩, fun _ _ h => h, fun _ _ _ h => h⟩
theorem Ext.trans {μ μ1 μ2 : List Addr} {H H1 H2 : Hp} (a : Ext μ H μ1 H1) (b : Ext μ1 H1 μ2 H2) : Ext μ H μ2 H2 :=
  ⟨by obtain ⟨x, e⟩ := a.pre; obtain ⟨y, e'⟩ := b.pre; exact ⟨x ++ y, by rw [e', e, List.append_assoc]⟩, fun c xs h => b.tup c xs (a.tup c xs h), fun c o u h => b.frz c o u (a.frz c o u h)⟩
theorem Ext.at {μ μ' : List Addr} {H H' : Hp} (e : Ext μ H μ' H') {k : Nat} {a : Addr} (h : μ[k]? = some a) : μ'[k]? = some a := by
  obtain ⟨ν, rfl⟩ := e.pre
  exact (List.getElem?_append_left (List.getElem?_eq_some_iff.mp h).1).trans h
theorem Ext.sqT {K : PySem.W.Frag} {μ μ' : List Addr} {H H' : Hp} (e : Ext μ H μ' H') {a : Addr} {ws : List V} (h : SqT K H a ws) : SqT K H' a ws := by
  rcases h with (h | ⟨o, h⟩) | h
  · exact .inl (.inl (e.tup _ _ h))
  · exact .inl (.inr ⟨o, e.frz _ _ _ h⟩)
  · exact .inr h
section
variable {K : PySem.W.Frag} {μ μ' : List Addr} {H H' : Hp}
mutual
theorem Rv.ext (e : Ext μ H μ' H') : ∀ {x : Vl} {w : V}, Rv K μ H x w → Rv K μ' H' x w
  | _, _, .non => .non
  | _, _, .bl b => .bl b
  | _, _, .int b => .int b
  | _, _, .str b => .str b
  | _, _, .tup s r n => .tup (e.sqT s) (RvA.ext e r) fun h => let ⟨o, u, h1, h2⟩ := n h; ⟨o, u, e.frz _ _ _ h1, h2⟩
  | _, _, .ref h => .ref (e.at h)
theorem RvA.ext (e : Ext μ H μ' H') : ∀ {xs : List Vl} {ws : List V}, RvA K μ H xs ws → RvA K μ' H' xs ws
  | _, _, .nil => .nil
  | _, _, .cons a b => .cons (Rv.ext e a) (RvA.ext e b)
end
theorem RvA.length : ∀ {xs : List Vl} {ws : List V}, RvA K μ H xs ws → xs.length = ws.length
  | _, _, .nil => rfl
  | _, _, .cons _ b => congrArg (· + 1) (RvA.length b)
theorem RvA.get : ∀ {xs : List Vl} {ws : List V} {i : Nat} {x : Vl}, RvA K μ H xs ws → xs[i]? = some x → ∃ w, ws[i]? = some w ∧ Rv K μ H x w
  | _, _, _, _, .nil, h => by simp at h
  | _, _, 0, _, .cons a b, h => by
    have e := Option.some.inj h
    subst e
    exact ⟨_, rfl, a⟩
  | _, _, i + 1, x, .cons a b, h => RvA.get (i := i) b h
theorem RvA.append : ∀ {xs ys : List Vl} {ws us : List V}, RvA K μ H xs ws → RvA K μ H ys us → RvA K μ H (xs ++ ys) (ws ++ us)
  | _, _, _, _, .nil, b => b
  | _, _, _, _, .cons r a, b => .cons r (RvA.append a b)
theorem RvA.take : ∀ {xs : List Vl} {ws : List V} (n : Nat), RvA K μ H xs ws → RvA K μ H (xs.take n) (ws.take n)
  | _, _, 0, _ => .nil
  | _, _, _ + 1, .nil => .nil
  | _, _, n + 1, .cons a b => .cons a (RvA.take n b)
theorem RvA.drop : ∀ {xs : List Vl} {ws : List V} (n : Nat), RvA K μ H xs ws → RvA K μ H (xs.drop n) (ws.drop n)
  | _, _, 0, r => r
  | _, _, _ + 1, .nil => .nil
  | _, _, n + 1, .cons a b => RvA.drop n b
theorem RvA.set {x : Vl} {w : V} (r : Rv K μ H x w) : ∀ {xs : List Vl} {ws : List V} (i : Nat), RvA K μ H xs ws → RvA K μ H (xs.set i x) (ws.set i w)
  | _, _, _, .nil => .nil
  | _, _, 0, .cons _ b => .cons r b
  | _, _, i + 1, .cons a b => .cons a (RvA.set r i b)
theorem RvA.rep : ∀ (n : Nat) {xs : List Vl} {ws : List V}, RvA K μ H xs ws → RvA K μ H (List.replicate n xs).flatten (List.replicate n ws).flatten
  | 0, _, _, _ => .nil
  | n + 1, xs, ws, r => by
    rw [List.replicate_succ, List.replicate_succ, List.flatten_cons, List.flatten_cons]
    exact r.append (RvA.rep n r)
theorem RvA.get' : ∀ {xs : List Vl} {ws : List V} {i : Nat} {w : V}, RvA K μ H xs ws → ws[i]? = some w → ∃ x, xs[i]? = some x ∧ Rv K μ H x w
  | _, _, _, _, .nil, h => by simp at h
  | _, _, 0, _, .cons a b, h => by
    have e := Option.some.inj h
    subst e
    exact ⟨_, rfl, a⟩
  | _, _, i + 1, x, .cons a b, h => RvA.get' (i := i) b h
end
/-! ### the store -/
/-- the list at a is read only: it stays whatever is written -/
def RF (K : PySem.W.Frag) (H : Hp) (a : Addr) (ws : List V) : Prop := (∃ o, H a = some (.frz o (.lst ws))) ∨ ∀ H' : Hp, SqL K H' a ws
theorem RF.sq {K : PySem.W.Frag} {H : Hp} {a : Addr} {ws : List V} (r : RF K H a ws) : SqL K H a ws := by
  rcases r with ⟨o, h⟩ | h
  · exact .inl (.inr ⟨o, h⟩)
  · exact h H
theorem RF.ext {K : PySem.W.Frag} {μ μ' : List Addr} {H H' : Hp} {a : Addr} {ws : List V} (r : RF K H a ws) (e : Ext μ H μ' H') : RF K H' a ws := by
  rcases r with ⟨o, h⟩ | h
  · exact .inl ⟨o, e.frz _ _ _ h⟩
  · exact .inr h
def Rk (K : PySem.W.Frag) (μ : List Addr) (H : Hp) (kvs : List (Key × Vl)) (kws : List (Key × V)) : Prop := kvs.map (·.1) = kws.map (·.1) ∧ RvA K μ H (kvs.map (·.2)) (kws.map (·.2))
def Ro (K : PySem.W.Frag) (μ : List Addr) (H : Hp) (a : Addr) : Ob → Prop
  | .lst xs => ∃ ws, H a = some (.lst ws) ∧ RvA K μ H xs ws
  | .fro xs => ∃ ws, RF K H a ws ∧ RvA K μ H xs ws
  | .dic kvs => ∃ kws, H a = some (.dK kws) ∧ Rk K μ H kvs kws
structure RM (K : PySem.W.Frag) (μ : List Addr) (H : Hp) (M : Mem) : Prop where
  len : μ.length = M.length
  ob : ∀ (k : Nat) (o : Ob) (a : Addr), M[k]? = some o → μ[k]? = some a → Ro K μ H a o
  inj : ∀ (j k : Nat) (a : Addr) (o o' : Ob), M[j]? = some o → M[k]? = some o' → o.mut = true → o'.mut = true → μ[j]? = some a → μ[k]? = some a → j = k
def Tabs (T : List Addr) (H : Hp) : Prop := ∀ P ∈ T, TabG H P
structure RS (K : PySem.W.Frag) (T : List Addr) (μ : List Addr) (H : Hp) (M : Mem) : Prop where
  mem : RM K μ H M
  tab : Tabs T H
theorem RM.addr {K : PySem.W.Frag} {μ : List Addr} {H : Hp} {M : Mem} (r : RM K μ H M) {k : Nat} {o : Ob} (h : M[k]? = some o) : ∃ a, μ[k]? = some a ∧ Ro K μ H a o := by
  have h1 := (List.getElem?_eq_some_iff.mp h).1
  have h2 : k < μ.length := by rw [r.len]; exact h1
  exact ⟨μ[k], List.getElem?_eq_getElem h2, r.ob k o _ h (List.getElem?_eq_getElem h2)⟩
theorem app_get {α : Type} {l : List α} {x : α} {k : Nat} {y : α} (h : (l ++ [x])[k]? = some y) : (k < l.length ∧ l[k]? = some y) ∨ (k = l.length ∧ y = x) := by
  by_cases hk : k < l.length
  · rw [List.getElem?_append_left hk] at h
    exact .inl ⟨hk, h⟩
  · have h1 := (List.getElem?_eq_some_iff.mp h).1
    simp at h1
    have : k = l.length := by omega
    subst this
    simp at h
    exact .inr ⟨rfl, h.symm⟩
section
variable {K : PySem.W.Frag} {T : List Addr} {μ : List Addr} {H H' : Hp} {M : Mem}
def NoSt (u : HO) : Prop := (∀ xs, u ≠ .tup xs) ∧ (∀ o' u', u ≠ .frz o' u') ∧ ∀ ps, u ≠ .tbl ps
theorem Ro.tracked {a : Addr} {o : Ob} (r : Ro K μ H a o) (hm : o.mut = true) : ∃ u, H a = some u ∧ NoSt u := by
  cases o with
  | lst xs => obtain ⟨ws, h, _⟩ := r; exact ⟨_, h, fun _ z => (by cases z), fun _ _ z => (by cases z), fun _ z => (by cases z)⟩
  | dic kvs => obtain ⟨ws, h, _⟩ := r; exact ⟨_, h, fun _ z => (by cases z), fun _ _ z => (by cases z), fun _ z => (by cases z)⟩
  | fro xs => cases hm
/-- a heap that differs only by tables and by new things -/
structure Grow (T : List Addr) (H H' : Hp) : Prop where
  keep : ∀ b o, H b = some o → (∀ ps, o ≠ .tbl ps) → H' b = some o
  tab : Tabs T H'
theorem Grow.ext (g : Grow T H H') : Ext μ H μ H' := ⟨⟨[], by simp⟩, fun b xs h => g.keep b _ h fun _ z => (by cases z), fun b o u h => g.keep b _ h fun _ z => (by cases z)⟩
theorem Ro.mono {μ' : List Addr} {a : Addr} {o : Ob} (r : Ro K μ H a o) (e : Ext μ H μ' H') (h : o.mut = true → H' a = H a) : Ro K μ' H' a o := by
  cases o with
  | lst xs => obtain ⟨ws, h1, rv⟩ := r; exact ⟨ws, (h rfl).trans h1, rv.ext e⟩
  | fro xs => obtain ⟨ws, h1, rv⟩ := r; exact ⟨ws, h1.ext e, rv.ext e⟩
  | dic kvs => obtain ⟨ws, h1, rv⟩ := r; exact ⟨ws, (h rfl).trans h1, rv.1, rv.2.ext e⟩
theorem RS.grow (r : RS K T μ H M) (g : Grow T H H') : RS K T μ H' M := by
  refine ⟨⟨r.mem.len, fun k o a h1 h2 => ?_, r.mem.inj⟩, g.tab⟩
  have q := r.mem.ob k o a h1 h2
  refine q.mono g.ext fun hm => ?_
  obtain ⟨u, h, n⟩ := q.tracked hm
  rw [h]
  exact g.keep _ _ h n.2.2
theorem RS.new {p : Addr} {u : HO} (r : RS K T μ H M) (np : H p = none) : Grow T H (upd H p u) := by
  refine ⟨fun b o h _ => by rw [upd_ne (ne_of_none h np)]; exact h, fun P hP => ?_⟩
  obtain ⟨ps, h, t⟩ := r.tab P hP
  exact ⟨ps, by rw [upd_ne (ne_of_none h np)]; exact h, t⟩
/-- a new tuple -/
theorem RS.tup {p : Addr} {xs : List Vl} {ws : List V} (r : RS K T μ H M) (np : H p = none) (rv : RvA K μ H xs ws) : RS K T μ (upd H p (.tup ws)) M ∧ Ext μ H μ (upd H p (.tup ws)) ∧ Rv K μ (upd H p (.tup ws)) (.tup false xs) (.ref p) :=
  ⟨r.grow (r.new np), (r.new np).ext, .tup (SqT.of upd_same) (rv.ext (r.new np).ext) nofun⟩
/-- .. known to have no dict -/
theorem RS.tupN {p : Addr} {o : Obj} {xs : List Vl} {ws : List V} (r : RS K T μ H M) (np : H p = none) (rv : RvA K μ H xs ws) (ho : o.dict = none) : RS K T μ (upd H p (.frz o (.tup ws))) M ∧ Ext μ H μ (upd H p (.frz o (.tup ws))) ∧ Rv K μ (upd H p (.frz o (.tup ws))) (.tup true xs) (.ref p) :=
  ⟨r.grow (r.new np), (r.new np).ext, .tup (.inl (.inr ⟨o, upd_same⟩)) (rv.ext (r.new np).ext) fun _ => ⟨o, _, upd_same, ho⟩⟩
/-- a new mutable object -/
theorem RS.alloc {p : Addr} {u : HO} {o : Ob} (r : RS K T μ H M) (np : H p = none) (ho : Ext μ H (μ ++ [p]) (upd H p u) → Ro K (μ ++ [p]) (upd H p u) p o) :
    RS K T (μ ++ [p]) (upd H p u) (M ++ [o]) ∧ Ext μ H (μ ++ [p]) (upd H p u) ∧ Rv K (μ ++ [p]) (upd H p u) (.ref M.length) (.ref p) := by
  have g := r.new (u := u) np
  have e : Ext μ H (μ ++ [p]) (upd H p u) := ⟨⟨[p], rfl⟩, (g.ext (μ := μ)).tup, (g.ext (μ := μ)).frz⟩
  have hlen := r.mem.len
  refine ⟨⟨⟨by simp [hlen], fun k o' a h1 h2 => ?_, fun j k a o1 o2 h1 h2 m1 m2 h3 h4 => ?_⟩, g.tab⟩, e, .ref (by rw [← hlen]; simp)⟩
  · rcases app_get h1 with ⟨hk, h1⟩ | ⟨hk, rfl⟩
    · rw [List.getElem?_append_left (by omega)] at h2
      have q := r.mem.ob k o' a h1 h2
      refine q.mono e fun hm => ?_
      obtain ⟨u', h, n⟩ := q.tracked hm
      rw [h]
      exact g.keep _ _ h n.2.2
    · rw [hk, ← hlen] at h2
      simp at h2
      subst h2
      exact ho e
  · rcases app_get h1 with ⟨hj, g1⟩ | ⟨hj, e1⟩ <;> rcases app_get h2 with ⟨hk, g2⟩ | ⟨hk, e2⟩
    · rw [List.getElem?_append_left (by omega)] at h3 h4
      exact r.mem.inj j k a o1 o2 g1 g2 m1 m2 h3 h4
    · rw [hk, ← hlen] at h4
      rw [List.getElem?_append_left (by omega)] at h3
      simp at h4
      obtain ⟨u', h, _⟩ := (r.mem.ob j o1 a g1 h3).tracked m1
      rw [← h4, np] at h
      cases h
    · rw [hj, ← hlen] at h3
      rw [List.getElem?_append_left (by omega)] at h4
      simp at h3
      obtain ⟨u', h, _⟩ := (r.mem.ob k o2 a g2 h4).tracked m2
      rw [← h3, np] at h
      cases h
    · omega
/-- a mutable object written -/
theorem RS.write {k : Nat} {a : Addr} {u : HO} {o o' : Ob} (r : RS K T μ H M) (h1 : M[k]? = some o) (hm : o.mut = true) (h2 : μ[k]? = some a) (hu : NoSt u) (hm' : o'.mut = true) (ho : Ext μ H μ (upd H a u) → Ro K μ (upd H a u) a o') :
    RS K T μ (upd H a u) (M.set k o') ∧ Ext μ H μ (upd H a u) := by
  obtain ⟨u0, h0, n0⟩ := (r.mem.ob k o a h1 h2).tracked hm
  have ne : ∀ b v, H b = some v → ¬ NoSt v → b ≠ a := fun b v h n z => by
    rw [z, h0] at h
    cases h
    exact n n0
  have e : Ext μ H μ (upd H a u) := ⟨⟨[], by simp⟩, fun b xs h => by rw [upd_ne (ne b _ h fun z => z.1 _ rfl)]; exact h, fun b o u h => by rw [upd_ne (ne b _ h fun z => z.2.1 _ _ rfl)]; exact h⟩
  have hk := (List.getElem?_eq_some_iff.mp h1).1
  refine ⟨⟨⟨by rw [List.length_set]; exact r.mem.len, fun j oj b g1 g2 => ?_, fun i j b o1 o2 g1 g2 m1 m2 g3 g4 => ?_⟩, fun P hP => ?_⟩, e⟩
  · by_cases hj : j = k
    · subst hj
      rw [List.getElem?_set_self hk] at g1
      cases g1
      rw [h2] at g2
      cases g2
      exact ho e
    · rw [List.getElem?_set_ne (Ne.symm hj)] at g1
      refine (r.mem.ob j oj b g1 g2).mono e fun hmj => upd_ne fun z => ?_
      subst z
      exact hj (r.mem.inj j k b oj o g1 h1 hmj hm g2 h2)
  · have back : ∀ {i : Nat} {oi : Ob}, (M.set k o')[i]? = some oi → oi.mut = true → ∃ oo, M[i]? = some oo ∧ oo.mut = true := fun {i oi} g m => by
      by_cases hi : i = k
      · exact ⟨o, by rw [hi]; exact h1, hm⟩
      · rw [List.getElem?_set_ne (Ne.symm hi)] at g
        exact ⟨oi, g, m⟩
    obtain ⟨p1, q1, q2⟩ := back g1 m1
    obtain ⟨p2, q3, q4⟩ := back g2 m2
    exact r.mem.inj i j b p1 p2 q1 q3 q2 q4 g3 g4
  · obtain ⟨ps, h, t⟩ := r.tab P hP
    exact ⟨ps, by rw [upd_ne (ne P _ h fun z => z.2.2 _ rfl)]; exact h, t⟩
end
/-! ### what a piece of syntax is worth -/
abbrev Fe := Env → Mem → Option (Vl × Mem)
abbrev Ft := Env → Mem → Option (Bool × Mem)
abbrev Fa := Env → Mem → Option (List Vl × Mem)
inductive Out where
  | nx | rt (v : Vl) | bk | ct
abbrev Fs := Env → Mem → Option (Out × Env × Mem)
/-- the slots -/
structure Rσ (K : PySem.W.Frag) (μ : List Addr) (H : Hp) (ρ : Env) (σ : L2.St) : Prop where
  len : ρ.length = σ.length
  at_ : ∀ (i : Nat) (v : Vl), ρ[i]? = some (some v) → ∃ w, σ[i]? = some (some w) ∧ Rv K μ H v w
theorem Rσ.ext {K : PySem.W.Frag} {μ μ' : List Addr} {H H' : Hp} {ρ : Env} {σ : L2.St} (r : Rσ K μ H ρ σ) (e : Ext μ H μ' H') : Rσ K μ' H' ρ σ :=
  ⟨r.len, fun i v h => let ⟨w, h1, h2⟩ := r.at_ i v h; ⟨w, h1, h2.ext e⟩⟩
theorem Rσ.set {K : PySem.W.Frag} {μ : List Addr} {H : Hp} {ρ : Env} {σ : L2.St} {i : Nat} {v : Vl} {w : V} (r : Rσ K μ H ρ σ) (h : Rv K μ H v w) : Rσ K μ H (ρ.set i (some v)) (σ.set i (some w)) := by
  refine ⟨by simp [r.len], fun j u e => ?_⟩
  by_cases hj : i = j
  · subst hj
    rw [List.getElem?_set] at e
    simp at e
    obtain ⟨e1, e2⟩ := e
    subst e2
    refine ⟨w, ?_, h⟩
    rw [List.getElem?_set_self (by rw [← r.len]; exact e1)]
  · rw [List.getElem?_set_ne hj] at e
    rw [List.getElem?_set_ne hj]
    exact r.at_ j u e
def SemE (K : PySem.W.Frag) (T : List Addr) (te : TE) (f : Fe) : Prop := ∀ (σ : L2.St) (H : Hp) (μ : List Addr) (ρ : Env) (M : Mem) (v : Vl) (M' : Mem) (Q : VK), f ρ M = some (v, M') → Rσ K μ H ρ σ → RS K T μ H M →
  (∀ w μ' H', Ext μ H μ' H' → Rv K μ' H' v w → RS K T μ' H' M' → Q w H') → te σ H Q
def SemT (K : PySem.W.Frag) (T : List Addr) (tt : TT) (f : Ft) : Prop := ∀ (σ : L2.St) (H : Hp) (μ : List Addr) (ρ : Env) (M : Mem) (b : Bool) (M' : Mem) (Q : Bool → Hp → Prop), f ρ M = some (b, M') → Rσ K μ H ρ σ → RS K T μ H M →
  (∀ μ' H', Ext μ H μ' H' → RS K T μ' H' M' → Q b H') → tt σ H Q
def SemA (K : PySem.W.Frag) (T : List Addr) (ta : TA) (f : Fa) : Prop := ∀ (σ : L2.St) (H : Hp) (μ : List Addr) (ρ : Env) (M : Mem) (vs : List Vl) (M' : Mem) (Q : List V → Hp → Prop), f ρ M = some (vs, M') → Rσ K μ H ρ σ → RS K T μ H M →
  (∀ ws μ' H', Ext μ H μ' H' → RvA K μ' H' vs ws → RS K T μ' H' M' → Q ws H') → ta σ H Q
def EndOk (K : PySem.W.Frag) (T : List Addr) (μ : List Addr) (H : Hp) (D : Ends) : Out → Env → Mem → Prop
  | .nx, ρ', M' => ∀ σ' μ' H', Ext μ H μ' H' → Rσ K μ' H' ρ' σ' → RS K T μ' H' M' → D.nx σ' H'
  | .rt v, _, M' => ∀ w μ' H', Ext μ H μ' H' → Rv K μ' H' v w → RS K T μ' H' M' → D.rt w H'
  | .bk, ρ', M' => ∀ σ' μ' H', Ext μ H μ' H' → Rσ K μ' H' ρ' σ' → RS K T μ' H' M' → D.bk σ' H'
  | .ct, ρ', M' => ∀ σ' μ' H', Ext μ H μ' H' → Rσ K μ' H' ρ' σ' → RS K T μ' H' M' → D.ct σ' H'
def SemS (K : PySem.W.Frag) (T : List Addr) (ts : TS) (f : Fs) : Prop := ∀ (σ : L2.St) (H : Hp) (μ : List Addr) (ρ : Env) (M : Mem) (o : Out) (ρ' : Env) (M' : Mem) (D : Ends), f ρ M = some (o, ρ', M') → Rσ K μ H ρ σ → RS K T μ H M →
  EndOk K T μ H D o ρ' M' → ts D σ H
theorem EndOk.ext {K : PySem.W.Frag} {T : List Addr} {μ μ' : List Addr} {H H' : Hp} {D : Ends} {o : Out} {ρ : Env} {M : Mem} (h : EndOk K T μ H D o ρ M) (e : Ext μ H μ' H') : EndOk K T μ' H' D o ρ M := by
  cases o with
  | nx => exact fun σ' μ2 H2 e2 => h σ' μ2 H2 (e.trans e2)
  | rt v => exact fun σ' μ2 H2 e2 => h σ' μ2 H2 (e.trans e2)
  | bk => exact fun σ' μ2 H2 e2 => h σ' μ2 H2 (e.trans e2)
  | ct => exact fun σ' μ2 H2 e2 => h σ' μ2 H2 (e.trans e2)
/-! ### the functions -/
def eVar (i : Nat) : Fe := fun ρ M => match ρ[i]? with
  | some (some v) => some (v, M)
  | _ => none
def eC (v : Vl) : Fe := fun _ M => some (v, M)
def e2 (op : Vl → Vl → Mem → Option (Vl × Mem)) (fa fb : Fe) : Fe := fun ρ M => match fa ρ M with
  | some (a, M1) => match fb ρ M1 with
    | some (b, M2) => op a b M2
    | none => none
  | none => none
def aNil : Fa := fun _ M => some ([], M)
def aCons (f : Fe) (g : Fa) : Fa := fun ρ M => match f ρ M with
  | some (v, M1) => match g ρ M1 with
    | some (vs, M2) => some (v :: vs, M2)
    | none => none
  | none => none
def eA (op : List Vl → Mem → Option (Vl × Mem)) (g : Fa) : Fe := fun ρ M => match g ρ M with
  | some (vs, M1) => op vs M1
  | none => none
def eAnd (f g : Fe) : Fe := fun ρ M => match f ρ M with
  | some (.bl true, M1) => g ρ M1
  | some (.bl false, M1) => some (.bl false, M1)
  | _ => none
def eOr (f g : Fe) : Fe := fun ρ M => match f ρ M with
  | some (.bl false, M1) => g ρ M1
  | some (.bl true, M1) => some (.bl true, M1)
  | _ => none
def eNot (f : Fe) : Fe := fun ρ M => match f ρ M with
  | some (.bl b, M1) => some (.bl (!b), M1)
  | _ => none
def eIf (t : Ft) (f g : Fe) : Fe := fun ρ M => match t ρ M with
  | some (true, M1) => f ρ M1
  | some (false, M1) => g ρ M1
  | none => none
def tV (f : Fe) : Ft := fun ρ M => match f ρ M with
  | some (.bl b, M1) => some (b, M1)
  | _ => none
def tAn (f g : Ft) : Ft := fun ρ M => match f ρ M with
  | some (true, M1) => g ρ M1
  | some (false, M1) => some (false, M1)
  | none => none
def tO (f g : Ft) : Ft := fun ρ M => match f ρ M with
  | some (false, M1) => g ρ M1
  | some (true, M1) => some (true, M1)
  | none => none
def tN (f : Ft) : Ft := fun ρ M => match f ρ M with
  | some (b, M1) => some (!b, M1)
  | none => none
def sNil : Fs := fun ρ M => some (.nx, ρ, M)
def sCons (f g : Fs) : Fs := fun ρ M => match f ρ M with
  | some (.nx, ρ1, M1) => g ρ1 M1
  | r => r
def sSet (i : Nat) (f : Fe) : Fs := fun ρ M => match f ρ M with
  | some (v, M1) => some (.nx, ρ.set i (some v), M1)
  | none => none
def sRet (f : Fe) : Fs := fun ρ M => match f ρ M with
  | some (v, M1) => some (.rt v, ρ, M1)
  | none => none
def sEx (f : Fe) : Fs := fun ρ M => match f ρ M with
  | some (_, M1) => some (.nx, ρ, M1)
  | none => none
def sIf (t : Ft) (f g : Fs) : Fs := fun ρ M => match t ρ M with
  | some (true, M1) => f ρ M1
  | some (false, M1) => g ρ M1
  | none => none
end Sh

set_option Elab.async false
set_option linter.all false
set_option maxRecDepth 100000
set_option maxHeartbeats 2000000
namespace Sh
open PySem PySem.Spec PyProof.Rows L2 NdefX GenE
open GxR (TabB TabG Tabbed)
/-- a family of contexts: the same def, the same names; T the tables of code objects -/
structure Fam where
  ι : Type
  X : ι → Cx
  K : PySem.W.Frag
  mg : Str → Option Value
  base : Heap
  prog : Program
  w : World
  N : List Str
  sc : Scope
  lv : Nat
  T : List Addr
  code : Option Value
  hK : ∀ i, (X i).K = K
  hmg : ∀ i, (X i).mg = mg
  hbase : ∀ i, (X i).base = base
  hprog : ∀ i, (X i).prog = prog
  hw : ∀ i, (X i).w = w
  hN : ∀ i, (X i).N = N
  hsc : ∀ i, (X i).env.scope = sc
  hr : ∀ i, Room lv (X i).A
  hcalm : ∀ i, (X i).calm = true
  hcode : ∀ c, code = some c → ∀ i, (X i).env.code = c
  fn : Bool
  hfn : fn = true → ∀ i x, (X i).fn x = true
  hp : ∀ i, PassesOwn (model (X i).prog (X i).w) (X i).A (X i).env (X i).xe
section
variable {F : Fam}
def SE (F : Fam) (e : Expr) (f : Fe) : Prop := ∃ te, (∀ i, PE (F.X i) e te) ∧ SemE F.K F.T te f
def ST (F : Fam) (e : Expr) (f : Ft) : Prop := ∃ tt, (∀ i, PT (F.X i) e tt) ∧ SemT F.K F.T tt f
def SW (F : Fam) (e : Expr) (f : Ft) : Prop := ∃ tt, (∀ i, PW (F.X i) e tt) ∧ SemT F.K F.T tt f
def SA (F : Fam) (es : List Expr) (f : Fa) : Prop := (∃ ta, (∀ i, PA (F.X i) es ta) ∧ SemA F.K F.T ta f) ∧ ∀ ρ M vs M', f ρ M = some (vs, M') → vs.length = es.length
def SS (F : Fam) (st : Stmt) (f : Fs) : Prop := ∃ ts, (∀ i, PS (F.X i) st ts) ∧ SemS F.K F.T ts f
def SSs (F : Fam) (st : List Stmt) (f : Fs) : Prop := ∃ ts, (∀ i, PSs (F.X i) st ts) ∧ SemS F.K F.T ts f
variable {e a b c : Expr} {f fa fb fc : Fe} {pos p : Pos}
theorem e2_some {op : Vl → Vl → Mem → Option (Vl × Mem)} {ρ : Env} {M M' : Mem} {v : Vl} (h : e2 op fa fb ρ M = some (v, M')) : ∃ x M1 y M2, fa ρ M = some (x, M1) ∧ fb ρ M1 = some (y, M2) ∧ op x y M2 = some (v, M') := by
  unfold e2 at h
  split at h
  · split at h
    · exact ⟨_, _, _, _, by assumption, by assumption, h⟩
    · cases h
  · cases h
theorem se_var {x : Str} (i : Nat) (hN : F.N[i]? = some x := by rfl) (hv : Vis F.sc x := by first | exact Or.inl rfl | exact Or.inr (Or.inl rfl) | exact Or.inr (Or.inr rfl)) (hd : (x == ("__debug__" : Str)) = false := by decide)
    (hcd : (x == ("__classdict__" : Str)) = false := by decide) : SE F (.Name x pos) (eVar i) := by
  refine ⟨tVar i, fun j => pe_var (by rw [F.hN j]; exact hN) (by rw [F.hsc j]; exact hv) hd hcd, fun σ H μ ρ M v M' Q h rσ rs q => ?_⟩
  unfold eVar at h
  split at h
  · cases h
    obtain ⟨w, h1, h2⟩ := rσ.at_ i _ (by assumption)
    exact ⟨w, h1, q w μ H (Ext.refl _ _) h2 rs⟩
  · cases h
theorem semC {v0 : Vl} {w0 : V} (h0 : ∀ μ H, Rv F.K μ H v0 w0) : SemE F.K F.T (tC w0) (eC v0) := fun σ H μ ρ M v M' Q h _ rs q => by cases h; exact q _ μ H (Ext.refl _ _) (h0 _ _) rs
theorem se_int {i : Int} {j : Nat} : SE F (.Constant (.int i) j pos) (eC (.int i)) := ⟨_, fun _ => pe_int, semC fun _ _ => .int i⟩
theorem se_bl {b : Bool} {j : Nat} : SE F (.Constant (.bool b) j pos) (eC (.bl b)) := ⟨_, fun _ => pe_bl, semC fun _ _ => .bl b⟩
theorem se_non {j : Nat} : SE F (.Constant .none j pos) (eC .non) := ⟨_, fun _ => pe_non, semC fun _ _ => .non⟩
theorem se_str {x : Str} {j : Nat} : SE F (.Constant (.str x) j pos) (eC (.str x)) := ⟨_, fun _ => pe_str, semC fun _ _ => .str x⟩
def Glb (F : Fam) (x : Str) : Prop := F.sc.names.lookup x = some .globalImplicit
theorem Glb.gl {x : Str} (h : Glb F x) (i : F.ι) : Gl (F.X i) x := by
  show (F.X i).env.scope.names.lookup x = _
  rw [F.hsc i]
  exact h
theorem se_globI {x : Str} {i : Int} {u : Value} (hg : Glb F x) (hm : F.mg x = some u) (r : RelV (.int i) u) (hd : (x == ("__debug__" : Str)) = false := by decide) : SE F (.Name x pos) (eC (.int i)) :=
  ⟨_, fun j => pe_glob (hg.gl j) (by rw [F.hmg j]; exact hm) r hd, semC fun _ _ => .int i⟩
theorem se_globS {x : Str} {i : Str} {u : Value} (hg : Glb F x) (hm : F.mg x = some u) (r : RelV (.str i) u) (hd : (x == ("__debug__" : Str)) = false := by decide) : SE F (.Name x pos) (eC (.str i)) :=
  ⟨_, fun j => pe_glob (hg.gl j) (by rw [F.hmg j]; exact hm) r hd, semC fun _ _ => .str i⟩
/-- an operation on two values, on a list of values -/
def Sem2 (K : PySem.W.Frag) (T : List Addr) (r : R2) (op : Vl → Vl → Mem → Option (Vl × Mem)) : Prop := ∀ (H : Hp) (μ : List Addr) (M : Mem) (x y : Vl) (wx wy : V) (v : Vl) (M' : Mem) (Q : VK), op x y M = some (v, M') → Rv K μ H x wx → Rv K μ H y wy → RS K T μ H M →
  (∀ w μ' H', Ext μ H μ' H' → Rv K μ' H' v w → RS K T μ' H' M' → Q w H') → r wx wy H Q
def SemL (K : PySem.W.Frag) (T : List Addr) (r : List V → Hp → VK → Prop) (op : List Vl → Mem → Option (Vl × Mem)) : Prop := ∀ (H : Hp) (μ : List Addr) (M : Mem) (xs : List Vl) (ws : List V) (v : Vl) (M' : Mem) (Q : VK), op xs M = some (v, M') → RvA K μ H xs ws → RS K T μ H M →
  (∀ w μ' H', Ext μ H μ' H' → Rv K μ' H' v w → RS K T μ' H' M' → Q w H') → r ws H Q
theorem semOp {r : R2} {op : Vl → Vl → Mem → Option (Vl × Mem)} {ta tb : TE} (ho : Sem2 F.K F.T r op) (ha : SemE F.K F.T ta fa) (hb : SemE F.K F.T tb fb) : SemE F.K F.T (tOp r ta tb) (e2 op fa fb) := by
  intro σ H μ ρ M v M' Q h rσ rs q
  obtain ⟨x, M1, y, M2, h1, h2, h3⟩ := e2_some h
  refine ha σ H μ ρ M x M1 _ h1 rσ rs fun w1 μ1 H1 e1 r1 s1 => ?_
  refine hb σ H1 μ1 ρ M1 y M2 _ h2 (rσ.ext e1) s1 fun w2 μ2 H2 e2 r2 s2 => ?_
  exact ho H2 μ2 M2 x y w1 w2 v M' _ h3 (r1.ext e2) r2 s2 fun w3 μ3 H3 e3 r3 s3 => q w3 μ3 H3 ((e1.trans e2).trans e3) r3 s3
/-- an operator: its rule and its function -/
structure Op2 (F : Fam) (g : Value → Value → Sem Value) (op : Vl → Vl → Mem → Option (Vl × Mem)) : Prop where
  ex : ∃ r : R2, (∀ i, OpR (F.X i) g r) ∧ Sem2 F.K F.T r op
theorem se_bin {o : Operator} {op : Vl → Vl → Mem → Option (Vl × Mem)} (hr : Op2 F (binaryOp o) op) (ha : SE F a fa) (hb : SE F b fb) : SE F (.BinOp a o b pos) (e2 op fa fb) := by
  obtain ⟨r, hr, ho⟩ := hr.ex
  obtain ⟨ta, pa, sa⟩ := ha
  obtain ⟨tb, pb, sb⟩ := hb
  exact ⟨_, fun i => pe_op (hr i) (pa i) (pb i), semOp ho sa sb⟩
theorem se_cmp {o : CmpOp} {op : Vl → Vl → Mem → Option (Vl × Mem)} (hr : Op2 F (compareOp o) op) (ha : SE F a fa) (hb : SE F b fb) (hm : behindInMarks o b = false := by rfl) : SE F (.Compare a [o] [b] pos) (e2 op fa fb) := by
  obtain ⟨r, hr, ho⟩ := hr.ex
  obtain ⟨ta, pa, sa⟩ := ha
  obtain ⟨tb, pb, sb⟩ := hb
  exact ⟨_, fun i => pe_cmpR (hr i) (pa i) (pb i) hm, semOp ho sa sb⟩
theorem semTest {t : TE} (h : SemE F.K F.T t f) : SemT F.K F.T (tTest t) (tV f) := by
  intro σ H μ ρ M b M' Q h1 rσ rs q
  unfold tV at h1
  split at h1
  · cases h1
    exact h σ H μ ρ M _ _ _ (by assumption) rσ rs fun w μ' H' e r s => by
      cases r
      exact ⟨_, rfl, q μ' H' e s⟩
  · cases h1
theorem semTestB {t : TE} (h : SemE F.K F.T t f) : SemT F.K F.T (tB t) (tV f) := semTest h
theorem st_cmp {o : CmpOp} {op : Vl → Vl → Mem → Option (Vl × Mem)} (hr : Op2 F (compareOp o) op) (ha : SE F a fa) (hb : SE F b fb) (hm : behindInMarks o b = false := by rfl) : ST F (.Compare a [o] [b] pos) (tV (e2 op fa fb)) := by
  obtain ⟨r, hr, ho⟩ := hr.ex
  obtain ⟨ta, pa, sa⟩ := ha
  obtain ⟨tb, pb, sb⟩ := hb
  exact ⟨_, fun i => pt_cmpR (hr i) (pa i) (pb i) hm, semTest (semOp ho sa sb)⟩
theorem st_val (h : SE F e f) (he : ∀ env whole, isTrue e env whole = (do let v ← whole; standAt e.pos; holding [v] (truthy v)) := by intro _ _; rfl) : ST F e (tV f) := by
  obtain ⟨te, p, s⟩ := h
  exact ⟨_, fun i => pt_val (p i) (he _), semTestB s⟩
/-- x op y op' z -/
def e3 (op op' : Vl → Vl → Mem → Option (Vl × Mem)) (fa fb fc : Fe) : Fe := fun ρ M => match fa ρ M with
  | some (a, M1) => match fb ρ M1 with
    | some (b, M2) => match op a b M2 with
      | some (.bl true, M3) => match fc ρ M3 with
        | some (c, M4) => op' b c M4
        | none => none
      | some (.bl false, M3) => some (.bl false, M3)
      | _ => none
    | none => none
  | none => none
theorem semChain {r r' : R2} {op op' : Vl → Vl → Mem → Option (Vl × Mem)} {ta tb tc : TE} (ho : Sem2 F.K F.T r op) (ho' : Sem2 F.K F.T r' op') (ha : SemE F.K F.T ta fa) (hb : SemE F.K F.T tb fb) (hc : SemE F.K F.T tc fc) :
    SemE F.K F.T (tChain r r' ta tb tc) (e3 op op' fa fb fc) := by
  intro σ H μ ρ M v M' Q h rσ rs q
  unfold e3 at h
  split at h
  · split at h
    · rename_i _ x M1 h1 _ y M2 h2
      refine ha σ H μ ρ M x M1 _ h1 rσ rs fun w1 μ1 H1 e1 r1 s1 => ?_
      refine hb σ H1 μ1 ρ M1 y M2 _ h2 (rσ.ext e1) s1 fun w2 μ2 H2 e2 r2 s2 => ?_
      split at h
      · rename_i _ M3 h3
        refine ho H2 μ2 M2 x y w1 w2 _ M3 _ h3 (r1.ext e2) r2 s2 fun w3 μ3 H3 e3 r3 s3 => ?_
        cases r3
        refine ⟨true, rfl, ?_⟩
        rw [if_pos rfl]
        split at h
        · rename_i _ z M4 h4
          refine hc σ H3 μ3 ρ M3 z M4 _ h4 (rσ.ext ((e1.trans e2).trans e3)) s3 fun w4 μ4 H4 e4 r4 s4 => ?_
          exact ho' H4 μ4 M4 y z w2 w4 v M' _ h (r2.ext (e3.trans e4)) r4 s4 fun w5 μ5 H5 e5 r5 s5 => q w5 μ5 H5 ((((e1.trans e2).trans e3).trans e4).trans e5) r5 s5
        · cases h
      · rename_i _ M3 h3
        cases h
        refine ho H2 μ2 M2 x y w1 w2 _ _ _ h3 (r1.ext e2) r2 s2 fun w3 μ3 H3 e3 r3 s3 => ?_
        cases r3
        refine ⟨false, rfl, ?_⟩
        rw [if_neg (by simp)]
        exact q _ μ3 H3 ((e1.trans e2).trans e3) (.bl false) s3
      · cases h
    · cases h
  · cases h
theorem se_chain {o o' : CmpOp} {op op' : Vl → Vl → Mem → Option (Vl × Mem)} (hr : Op2 F (compareOp o) op) (hr' : Op2 F (compareOp o') op') (ha : SE F a fa) (hb : SE F b fb) (hc : SE F c fc) (hm : lastMarks [o, o'] [b, c] = false := by with_unfolding_all rfl) :
    SE F (.Compare a [o, o'] [b, c] pos) (e3 op op' fa fb fc) := by
  obtain ⟨r, hr, ho⟩ := hr.ex
  obtain ⟨r', hr', ho'⟩ := hr'.ex
  obtain ⟨ta, pa, sa⟩ := ha
  obtain ⟨tb, pb, sb⟩ := hb
  obtain ⟨tc, pc, sc⟩ := hc
  exact ⟨_, fun i => pe_chain (hr i) (hr' i) (pa i) (pb i) (pc i) hm, semChain ho ho' sa sb sc⟩
theorem st_chain {o o' : CmpOp} {op op' : Vl → Vl → Mem → Option (Vl × Mem)} (hr : Op2 F (compareOp o) op) (hr' : Op2 F (compareOp o') op') (ha : SE F a fa) (hb : SE F b fb) (hc : SE F c fc) (hm : lastMarks [o, o'] [b, c] = false := by with_unfolding_all rfl) :
    ST F (.Compare a [o, o'] [b, c] pos) (tV (e3 op op' fa fb fc)) := by
  obtain ⟨r, hr, ho⟩ := hr.ex
  obtain ⟨r', hr', ho'⟩ := hr'.ex
  obtain ⟨ta, pa, sa⟩ := ha
  obtain ⟨tb, pb, sb⟩ := hb
  obtain ⟨tc, pc, sc⟩ := hc
  exact ⟨_, fun i => pt_chain (hr i) (hr' i) (pa i) (pb i) (pc i) hm, semTest (semChain ho ho' sa sb sc)⟩
variable {t u : Ft} {rest : List Expr}
/-! ### and, or, not, if -/
theorem se_one {op} (h : SE F a fa) : SE F (.BoolOp op [a] pos) fa := by
  obtain ⟨ta, pa, sa⟩ := h
  exact ⟨_, fun i => pe_one (pa i), sa⟩
theorem se_and (ha : SE F a fa) (hb : SE F (.BoolOp .And (b :: rest) pos) fb) : SE F (.BoolOp .And (a :: b :: rest) pos) (eAnd fa fb) := by
  obtain ⟨ta, pa, sa⟩ := ha
  obtain ⟨tb, pb, sb⟩ := hb
  refine ⟨_, fun i => pe_and (pa i) (pb i), fun σ H μ ρ M v M' Q h rσ rs q => ?_⟩
  unfold eAnd at h
  split at h
  · refine sa σ H μ ρ M _ _ _ (by assumption) rσ rs fun w1 μ1 H1 e1 r1 s1 => ?_
    cases r1
    refine ⟨true, rfl, ?_⟩
    rw [if_pos rfl]
    exact sb σ H1 μ1 ρ _ v M' _ h (rσ.ext e1) s1 fun w2 μ2 H2 e2 r2 s2 => q w2 μ2 H2 (e1.trans e2) r2 s2
  · cases h
    refine sa σ H μ ρ M _ _ _ (by assumption) rσ rs fun w1 μ1 H1 e1 r1 s1 => ?_
    cases r1
    refine ⟨false, rfl, ?_⟩
    rw [if_neg (by simp)]
    exact q _ μ1 H1 e1 (.bl false) s1
  · cases h
theorem se_or (ha : SE F a fa) (hb : SE F (.BoolOp .Or (b :: rest) pos) fb) : SE F (.BoolOp .Or (a :: b :: rest) pos) (eOr fa fb) := by
  obtain ⟨ta, pa, sa⟩ := ha
  obtain ⟨tb, pb, sb⟩ := hb
  refine ⟨_, fun i => pe_or (pa i) (pb i), fun σ H μ ρ M v M' Q h rσ rs q => ?_⟩
  unfold eOr at h
  split at h
  · refine sa σ H μ ρ M _ _ _ (by assumption) rσ rs fun w1 μ1 H1 e1 r1 s1 => ?_
    cases r1
    refine ⟨false, rfl, ?_⟩
    rw [if_neg (by simp)]
    exact sb σ H1 μ1 ρ _ v M' _ h (rσ.ext e1) s1 fun w2 μ2 H2 e2 r2 s2 => q w2 μ2 H2 (e1.trans e2) r2 s2
  · cases h
    refine sa σ H μ ρ M _ _ _ (by assumption) rσ rs fun w1 μ1 H1 e1 r1 s1 => ?_
    cases r1
    refine ⟨true, rfl, ?_⟩
    rw [if_pos rfl]
    exact q _ μ1 H1 e1 (.bl true) s1
  · cases h
theorem se_not (ha : SE F a fa) : SE F (.UnaryOp .Not a pos) (eNot fa) := by
  obtain ⟨ta, pa, sa⟩ := ha
  refine ⟨_, fun i => pe_not (pa i), fun σ H μ ρ M v M' Q h rσ rs q => ?_⟩
  unfold eNot at h
  split at h
  · cases h
    refine sa σ H μ ρ M _ _ _ (by assumption) rσ rs fun w1 μ1 H1 e1 r1 s1 => ?_
    cases r1
    exact ⟨_, rfl, q _ μ1 H1 e1 (.bl _) s1⟩
  · cases h
theorem se_if (hc : ST F c t) (ha : SE F a fa) (hb : SE F b fb) : SE F (.IfExp c a b pos) (eIf t fa fb) := by
  obtain ⟨tc, pc, sc⟩ := hc
  obtain ⟨ta, pa, sa⟩ := ha
  obtain ⟨tb, pb, sb⟩ := hb
  refine ⟨_, fun i => pe_ifExp (pc i) (pa i) (pb i), fun σ H μ ρ M v M' Q h rσ rs q => ?_⟩
  unfold eIf at h
  split at h
  · refine sc σ H μ ρ M _ _ _ (by assumption) rσ rs fun μ1 H1 e1 s1 => ?_
    show (if true = true then _ else _)
    rw [if_pos rfl]
    exact sa σ H1 μ1 ρ _ v M' _ h (rσ.ext e1) s1 fun w2 μ2 H2 e2 r2 s2 => q w2 μ2 H2 (e1.trans e2) r2 s2
  · refine sc σ H μ ρ M _ _ _ (by assumption) rσ rs fun μ1 H1 e1 s1 => ?_
    show (if false = true then _ else _)
    rw [if_neg (by simp)]
    exact sb σ H1 μ1 ρ _ v M' _ h (rσ.ext e1) s1 fun w2 μ2 H2 e2 r2 s2 => q w2 μ2 H2 (e1.trans e2) r2 s2
  · cases h
theorem SW.st (h : SW F e t) : ST F e t := by
  obtain ⟨tt, p, s⟩ := h
  exact ⟨tt, fun i => (p i).pt, s⟩
theorem sw_and1 (h : ST F a t) : SW F (.BoolOp .And [a] pos) t := by
  obtain ⟨tt, p, s⟩ := h
  exact ⟨tt, fun i => pw_and1 (p i), s⟩
theorem sw_or1 (h : ST F a t) : SW F (.BoolOp .Or [a] pos) t := by
  obtain ⟨tt, p, s⟩ := h
  exact ⟨tt, fun i => pw_or1 (p i), s⟩
theorem sw_and (ha : ST F a t) (hb : SW F (.BoolOp .And (b :: rest) pos) u) : SW F (.BoolOp .And (a :: b :: rest) pos) (tAn t u) := by
  obtain ⟨ta, pa, sa⟩ := ha
  obtain ⟨tb, pb, sb⟩ := hb
  refine ⟨_, fun i => pw_and (pa i) (pb i), fun σ H μ ρ M v M' Q h rσ rs q => ?_⟩
  unfold tAn at h
  split at h
  · refine sa σ H μ ρ M _ _ _ (by assumption) rσ rs fun μ1 H1 e1 s1 => ?_
    show (if true = true then _ else _)
    rw [if_pos rfl]
    exact sb σ H1 μ1 ρ _ v M' _ h (rσ.ext e1) s1 fun μ2 H2 e2 s2 => q μ2 H2 (e1.trans e2) s2
  · cases h
    refine sa σ H μ ρ M _ _ _ (by assumption) rσ rs fun μ1 H1 e1 s1 => ?_
    show (if false = true then _ else _)
    rw [if_neg (by simp)]
    exact q μ1 H1 e1 s1
  · cases h
theorem sw_or (ha : ST F a t) (hb : SW F (.BoolOp .Or (b :: rest) pos) u) : SW F (.BoolOp .Or (a :: b :: rest) pos) (tO t u) := by
  obtain ⟨ta, pa, sa⟩ := ha
  obtain ⟨tb, pb, sb⟩ := hb
  refine ⟨_, fun i => pw_or (pa i) (pb i), fun σ H μ ρ M v M' Q h rσ rs q => ?_⟩
  unfold tO at h
  split at h
  · refine sa σ H μ ρ M _ _ _ (by assumption) rσ rs fun μ1 H1 e1 s1 => ?_
    show (if false = true then _ else _)
    rw [if_neg (by simp)]
    exact sb σ H1 μ1 ρ _ v M' _ h (rσ.ext e1) s1 fun μ2 H2 e2 s2 => q μ2 H2 (e1.trans e2) s2
  · cases h
    refine sa σ H μ ρ M _ _ _ (by assumption) rσ rs fun μ1 H1 e1 s1 => ?_
    show (if true = true then _ else _)
    rw [if_pos rfl]
    exact q μ1 H1 e1 s1
  · cases h
theorem st_not (ha : ST F a t) : ST F (.UnaryOp .Not a pos) (tN t) := by
  obtain ⟨ta, pa, sa⟩ := ha
  refine ⟨_, fun i => pt_not (pa i), fun σ H μ ρ M v M' Q h rσ rs q => ?_⟩
  unfold tN at h
  split at h
  · cases h
    exact sa σ H μ ρ M _ _ _ (by assumption) rσ rs fun μ1 H1 e1 s1 => q μ1 H1 e1 s1
  · cases h
/-! ### arguments, displays, calls -/
variable {es : List Expr} {g : Fa}
theorem sa_nil : SA F [] aNil := ⟨⟨_, fun _ => pa_nil, fun σ H μ ρ M v M' Q h _ rs q => by cases h; exact q _ μ H (Ext.refl _ _) .nil rs⟩, fun ρ M vs M' h => by cases h; rfl⟩
theorem sa_cons (ha : SE F e f) (hb : SA F es g) (hs : ∀ env, starEach (e :: es) env = (false, eval e env) :: starEach es env := by intro _; rfl) : SA F (e :: es) (aCons f g) := by
  obtain ⟨ta, pa, sa⟩ := ha
  obtain ⟨⟨tb, pb, sb⟩, hl⟩ := hb
  refine ⟨⟨_, fun i => pa_cons (pa i) (pb i) (hs _), fun σ H μ ρ M v M' Q h rσ rs q => ?_⟩, fun ρ M vs M' h => ?_⟩
  case refine_2 =>
    unfold aCons at h
    split at h
    · split at h
      · cases h
        rw [List.length_cons, hl _ _ _ _ (by assumption)]
        rfl
      · cases h
    · cases h
  unfold aCons at h
  split at h
  · split at h
    · cases h
      refine sa σ H μ ρ M _ _ _ (by assumption) rσ rs fun w1 μ1 H1 e1 r1 s1 => ?_
      refine sb σ H1 μ1 ρ _ _ _ _ (by assumption) (rσ.ext e1) s1 fun w2 μ2 H2 e2 r2 s2 => ?_
      exact q _ μ2 H2 (e1.trans e2) (.cons (r1.ext e2) r2) s2
    · cases h
  · cases h
def mkT : List Vl → Mem → Option (Vl × Mem) := fun vs M => if vs.length ≤ 1000 then some (.tup false vs, M) else none
def mkL : List Vl → Mem → Option (Vl × Mem) := fun vs M => if vs.length ≤ 1000 then some (.ref M.length, M ++ [.lst vs]) else none
theorem le_line {n : Nat} (h : n ≤ 1000) : n ≤ sizeLine := Nat.le_of_lt (small1000 h)
theorem se_tup {k : Nat} (h : SA F es g) : SE F (.Tuple es k pos) (eA mkT g) := by
  obtain ⟨⟨ta, pa, sa⟩, _⟩ := h
  refine ⟨_, fun i => pe_tup (pa i), fun σ H μ ρ M v M' Q h rσ rs q => ?_⟩
  unfold eA mkT at h
  split at h
  · split at h
    · cases h
      refine sa σ H μ ρ M _ _ _ (by assumption) rσ rs fun w1 μ1 H1 e1 r1 s1 => ⟨by rw [← r1.length]; exact le_line (by assumption), fun p np => ?_⟩
      obtain ⟨s2, e2, r2⟩ := s1.tup np r1
      exact q _ μ1 _ (e1.trans e2) r2 s2
    · cases h
  · cases h
theorem se_lst (h : SA F es g) : SE F (.List es pos) (eA mkL g) := by
  obtain ⟨⟨ta, pa, sa⟩, _⟩ := h
  refine ⟨_, fun i => pe_lst (pa i), fun σ H μ ρ M v M' Q h rσ rs q => ?_⟩
  unfold eA mkL at h
  split at h
  · split at h
    · cases h
      refine sa σ H μ ρ M _ _ _ (by assumption) rσ rs fun w1 μ1 H1 e1 r1 s1 => ⟨by rw [← r1.length]; exact le_line (by assumption), fun p np => ?_⟩
      obtain ⟨s2, e2, r2⟩ := s1.alloc (u := .lst w1) (o := .lst _) np fun e => ⟨w1, upd_same, r1.ext e⟩
      exact q _ _ _ (e1.trans e2) r2 s2
    · cases h
  · cases h
/-- what a def promises: its function -/
abbrev Fd := List Vl → Mem → Option (Vl × Mem)
def spM (K : PySem.W.Frag) (T : List Addr) (n : Nat) (m : Fd) : Sp := fun vs H Q _ => vs.length = n ∧ ∃ μ M xs v M', RvA K μ H xs vs ∧ RS K T μ H M ∧ m xs M = some (v, M') ∧ ∀ w μ' H', Ext μ H μ' H' → Rv K μ' H' v w → RS K T μ' H' M' → Q w H'
structure Dd (P : Program) (w : World) (K : PySem.W.Frag) (mg : Str → Option Value) (base : Heap) (T : List Addr) (k : Nat) (x : Str) (n : Nat) (m : Fd) : Prop where
  ex : ∃ (fa : Addr) (fd : FuncData) (ps : List Str), FnOk P w K mg base CX0 k fa fd ps (spM K T n m) ∧ mg x = some (.ref fa) ∧ PySem.W.keepIn K (.ref fa) = true ∧ Binds K fd ps []
theorem se_call {x : Str} {k n : Nat} {m : Fd} (D : Dd F.prog F.w F.K F.mg F.base F.T k x n m) (hk : k ≤ F.lv) (hg : Glb F x) (ha : SA F (e :: es) g) (hn : (e :: es).length = n := by rfl) (hs : ∀ env, starEach (e :: es) env = (false, eval e env) :: starEach es env := by intro _; rfl)
    (hpl : ∀ env, (backTo pos (starEach es env)).any (·.1) = false := by intro _; rfl) (hdb : (x == ("__debug__" : Str)) = false := by decide) : SE F (.Call (.Name x p) (e :: es) [] pos) (eA m g) := by
  obtain ⟨⟨ta, pa, sa⟩, hlen⟩ := ha
  obtain ⟨fa, fd, ps, FN, mg, kp, bd⟩ := D.ex
  refine ⟨tCall (spM F.K F.T n m) [] E0 ta, fun i => ?_, fun σ H μ ρ M v M' Q h rσ rs q => ?_⟩
  · have FN' : FnOk (F.X i).prog (F.X i).w (F.X i).K (F.X i).mg (F.X i).base CX0 k fa fd ps (spM F.K F.T n m) := by
      rw [F.hprog i, F.hw i, F.hK i, F.hmg i, F.hbase i]
      exact FN
    exact pe_call FN' ((F.hr i).mono hk) (hg.gl i) (by rw [F.hmg i]; exact mg) (by rw [F.hK i]; exact kp) (by rw [F.hK i]; exact bd) .nil pass0 (pa i) hdb (hs _) (hpl _)
  · unfold eA at h
    split at h
    · rename_i _ vs M1 h1
      refine sa σ H μ ρ M _ _ _ h1 rσ rs fun w1 μ1 H1 e1 r1 s1 => ?_
      have hl := (hlen _ _ _ _ h1).trans hn
      refine ⟨by rw [List.append_nil, ← r1.length]; exact hl, μ1, M1, vs, v, M', ?_, s1, h, fun w2 μ2 H2 e2 r2 s2 => q w2 μ2 H2 (e1.trans e2) r2 s2⟩
      rw [List.append_nil]
      exact r1
    · cases h
/-! ### statements -/
variable {st : Stmt} {sts : List Stmt} {s s' : Fs}
theorem ss_nil : SSs F [] sNil := ⟨_, fun _ => pss_nil, fun σ H μ ρ M o ρ' M' D h rσ rs q => by cases h; exact q σ μ H (Ext.refl _ _) rσ rs⟩
theorem ss_cons (h1 : SS F st s) (h2 : SSs F sts s') : SSs F (st :: sts) (sCons s s') := by
  obtain ⟨ta, pa, sa⟩ := h1
  obtain ⟨tb, pb, sb⟩ := h2
  refine ⟨_, fun i => pss_cons (pa i) (pb i), fun σ H μ ρ M o ρ' M' D h rσ rs q => ?_⟩
  unfold sCons at h
  split at h
  · exact sa σ H μ ρ M .nx _ _ _ (by assumption) rσ rs fun σ1 μ1 H1 e1 r1 s1 => sb σ1 H1 μ1 _ _ o ρ' M' D h r1 s1 (q.ext e1)
  · rename_i hne
    cases o with
    | nx => exact (hne _ _ h).elim
    | rt v => exact sa σ H μ ρ M (.rt v) ρ' M' _ h rσ rs q
    | bk => exact sa σ H μ ρ M .bk ρ' M' _ h rσ rs q
    | ct => exact sa σ H μ ρ M .ct ρ' M' _ h rσ rs q
theorem ss_one (h1 : SS F st s) : SSs F [st] s := by
  obtain ⟨ta, pa, sa⟩ := h1
  exact ⟨ta, fun i => pss_one (pa i), sa⟩
theorem ss_ret (h : SE F e f) : SS F (.Return (some e) pos) (sRet f) := by
  obtain ⟨ta, pa, sa⟩ := h
  refine ⟨_, fun i => ps_ret (pa i), fun σ H μ ρ M o ρ' M' D h rσ rs q => ?_⟩
  unfold sRet at h
  split at h
  · cases h
    exact sa σ H μ ρ M _ _ _ (by assumption) rσ rs q
  · cases h
theorem ss_expr (h : SE F e f) (hs : ∀ env, swapsWith e none pos.line env = pure false := by intro _; rfl) : SS F (.Expr e pos) (sEx f) := by
  obtain ⟨ta, pa, sa⟩ := h
  refine ⟨_, fun i => ps_expr (pa i) (hs _), fun σ H μ ρ M o ρ' M' D h rσ rs q => ?_⟩
  unfold sEx at h
  split at h
  · cases h
    exact sa σ H μ ρ M _ _ _ (by assumption) rσ rs fun w1 μ1 H1 e1 r1 s1 => q σ μ1 H1 e1 (rσ.ext e1) s1
  · cases h
theorem ss_if {sts' : List Stmt} (hc : ST F c t) (ha : SSs F sts s) (hb : SSs F sts' s') : SS F (.If c sts sts' pos) (sIf t s s') := by
  obtain ⟨tc, pc, sc⟩ := hc
  obtain ⟨ta, pa, sa⟩ := ha
  obtain ⟨tb, pb, sb⟩ := hb
  refine ⟨_, fun i => ps_if (pc i) (pa i) (pb i), fun σ H μ ρ M o ρ' M' D h rσ rs q => ?_⟩
  unfold sIf at h
  split at h
  · refine sc σ H μ ρ M _ _ _ (by assumption) rσ rs fun μ1 H1 e1 s1 => ?_
    show (if true = true then _ else _)
    rw [if_pos rfl]
    exact sa σ H1 μ1 ρ _ o ρ' M' D h (rσ.ext e1) s1 (q.ext e1)
  · refine sc σ H μ ρ M _ _ _ (by assumption) rσ rs fun μ1 H1 e1 s1 => ?_
    show (if false = true then _ else _)
    rw [if_neg (by simp)]
    exact sb σ H1 μ1 ρ _ o ρ' M' D h (rσ.ext e1) s1 (q.ext e1)
  · cases h
end
end Sh

set_option Elab.async false
set_option linter.all false
set_option maxRecDepth 100000
set_option maxHeartbeats 2000000
namespace Sh
open PySem PySem.Spec PyProof.Rows L2 NdefX GenE
open GxR (TabB TabG Tabbed)
def lim : Nat := 100000
theorem lim_line : lim ≤ sizeLine := by decide
theorem le_lim {n : Nat} (h : n ≤ lim) : n ≤ sizeLine := Nat.le_trans h lim_line
def Ob.seq : Ob → Option (List Vl)
  | .lst xs => some xs
  | .fro xs => some xs
  | .dic _ => none
section
variable {K : PySem.W.Frag} {T : List Addr} {μ : List Addr} {H : Hp} {M : Mem}
theorem RS.seq {k : Nat} {o : Ob} {xs : List Vl} {a : Addr} (r : RS K T μ H M) (h1 : M[k]? = some o) (h2 : o.seq = some xs) (h3 : μ[k]? = some a) : ∃ ws, SqL K H a ws ∧ RvA K μ H xs ws := by
  have q := r.mem.ob k o a h1 h3
  cases o with
  | lst ys => cases h2; obtain ⟨ws, e, rv⟩ := q; exact ⟨ws, SqL.of e, rv⟩
  | fro ys => cases h2; obtain ⟨ws, e, rv⟩ := q; exact ⟨ws, e.sq, rv⟩
  | dic kvs => cases h2
theorem RS.lst {k : Nat} {xs : List Vl} {a : Addr} (r : RS K T μ H M) (h1 : M[k]? = some (.lst xs)) (h3 : μ[k]? = some a) : ∃ ws, H a = some (.lst ws) ∧ RvA K μ H xs ws := r.mem.ob k _ a h1 h3
end
def seqAt (M : Mem) (k : Nat) : Option (List Vl) := match M[k]? with
  | some o => o.seq
  | none => none
theorem seqAt_some {M : Mem} {k : Nat} {xs : List Vl} (h : seqAt M k = some xs) : ∃ o, M[k]? = some o ∧ o.seq = some xs := by
  unfold seqAt at h
  split at h
  · exact ⟨_, by assumption, h⟩
  · cases h
/-! ### arithmetic -/
def vAdd : Vl → Vl → Mem → Option (Vl × Mem)
  | .int i, .int j, M => some (.int (i + j), M)
  | .str a, .str b, M => if a.length + b.length ≤ lim then some (.str (a ++ b), M) else none
  | .tup _ a, .tup _ b, M => if a.length + b.length ≤ lim then some (.tup false (a ++ b), M) else none
  | .ref j, .ref k, M => match M[j]?, M[k]? with
    | some (.lst a), some (.lst b) => if a.length + b.length ≤ lim then some (.ref M.length, M ++ [.lst (a ++ b)]) else none
    | _, _ => none
  | _, _, _ => none
theorem op2_add {F : Fam} : Op2 F (binaryOp .Add) vAdd := by
  refine ⟨_, fun i => ((op_add (X := F.X i)).or op_add_str).or ((F.hK i ▸ op_catA (X := F.X i)).or op_cat), ?_⟩
  intro H μ M x y wx wy v M' Q h rx ry rs q
  cases rx <;> cases ry <;> simp only [vAdd] at h <;> try (cases h; done)
  · cases h
    exact .inl (.inl ⟨_, _, rfl, rfl, q _ μ H (Ext.refl _ _) (.int _) rs⟩)
  · split at h
    · cases h
      exact .inl (.inr ⟨_, _, rfl, rfl, le_lim (by assumption), q _ μ H (Ext.refl _ _) (.str _) rs⟩)
    · cases h
  · split at h
    · cases h
      rename_i a _ xs ws sa ra na b _ ys us sb rb nb hle
      refine .inr (.inl ⟨a, b, ws, us, rfl, rfl, sa, sb, by rw [← ra.length, ← rb.length]; exact le_lim hle, fun e => ?_, fun _ e => ?_, fun _ _ p np => ?_⟩)
      · subst e
        cases ra
        exact q _ μ H (Ext.refl _ _) (.tup sb rb nofun) rs
      · subst e
        cases rb
        rw [List.append_nil] at q
        exact q _ μ H (Ext.refl _ _) (.tup sa ra nofun) rs
      · obtain ⟨s2, e2, r2⟩ := rs.tup np (ra.append rb)
        exact q _ μ _ e2 r2 s2
    · cases h
  · rename_i j a ha k b hb
    split at h
    · split at h
      · cases h
        rename_i xs ys h1 h2 hle
        obtain ⟨ws, e1, r1⟩ := rs.lst h1 ha
        obtain ⟨us, e2, r2⟩ := rs.lst h2 hb
        refine .inr (.inr ⟨a, b, ws, us, rfl, rfl, e1, e2, by rw [← r1.length, ← r2.length]; exact le_lim hle, fun p np => ?_⟩)
        obtain ⟨s3, e3, r3⟩ := rs.alloc (u := .lst (ws ++ us)) (o := .lst (xs ++ ys)) np fun e => ⟨_, upd_same, (r1.append r2).ext e⟩
        exact q _ _ _ e3 r3 s3
      · cases h
    · cases h
def vInt (C : Int → Int → Prop) [∀ i j, Decidable (C i j)] (g : Int → Int → Int) : Vl → Vl → Mem → Option (Vl × Mem)
  | .int i, .int j, M => if C i j then some (.int (g i j), M) else none
  | _, _, _ => none
theorem sem_int {K : PySem.W.Frag} {T : List Addr} {C D : Int → Int → Prop} [∀ i j, Decidable (C i j)] {g : Int → Int → Int} (hC : ∀ i j, C i j → D i j) : Sem2 K T (rI D fun i j => .int (g i j)) (vInt C g) := by
  intro H μ M x y wx wy v M' Q h rx ry rs q
  cases rx <;> cases ry <;> simp only [vInt] at h <;> try (cases h; done)
  split at h
  · cases h
    exact ⟨_, _, rfl, rfl, hC _ _ (by assumption), q _ μ H (Ext.refl _ _) (.int _) rs⟩
  · cases h
def vSub := vInt (fun _ _ => True) (· - ·)
theorem op2_sub {F : Fam} : Op2 F (binaryOp .Sub) vSub := by
  refine ⟨_, fun i => op_sub, ?_⟩
  intro H μ M x y wx wy v M' Q h rx ry rs q
  cases rx <;> cases ry <;> simp only [vSub, vInt] at h <;> try (cases h; done)
  split at h
  · cases h
    exact ⟨_, _, rfl, rfl, q _ μ H (Ext.refl _ _) (.int _) rs⟩
  · cases h
instance (i j : Int) : Decidable (CMul i j) := by unfold CMul; infer_instance
instance (i j : Int) : Decidable (CDiv i j) := by unfold CDiv; infer_instance
instance (i j : Int) : Decidable (CPow i j) := by unfold CPow; infer_instance
instance (xs : List Vl) : Decidable (xs = []) := match xs with
  | [] => .isTrue rfl
  | _ :: _ => .isFalse (by simp)
def vMul : Vl → Vl → Mem → Option (Vl × Mem)
  | .int i, .int j, M => if CMul i j then some (.int (i * j), M) else none
  | .tup _ xs, .int k, M => if xs ≠ [] ∧ 2 ≤ k ∧ k ≤ 1000 ∧ xs.length ≤ 1000 then some (.tup false (List.replicate k.toNat xs).flatten, M) else none
  | _, _, _ => none

theorem op2_mul {F : Fam} : Op2 F (binaryOp .Mult) vMul := by
  refine ⟨_, fun i => (op_mul (X := F.X i)).or (F.hK i ▸ op_repT (X := F.X i)), ?_⟩
  intro H μ M x y wx wy v M' Q h rx ry rs q
  cases rx <;> cases ry <;> simp only [vMul] at h <;> try (cases h; done)
  · split at h
    · cases h
      exact .inl ⟨_, _, rfl, rfl, by assumption, q _ μ H (Ext.refl _ _) (.int _) rs⟩
    · cases h
  · split at h
    · cases h
      rename_i a _ xs ws sa ra na k hc
      obtain ⟨h1, h2, h3, h4⟩ := hc
      refine .inr ⟨a, k, ws, rfl, rfl, sa, fun z => ?_, h2, h3, by rw [← ra.length]; exact h4, fun p np => ?_⟩
      · subst z
        cases ra
        exact h1 rfl
      · obtain ⟨s2, e2, r2⟩ := rs.tup np (ra.rep k.toNat)
        exact q _ μ _ e2 r2 s2
    · cases h
def vMod := vInt (fun _ j => 0 < j) (· % ·)
theorem op2_mod {F : Fam} : Op2 F (binaryOp .Mod) vMod := ⟨_, fun i => op_mod, sem_int fun _ _ h => h⟩
def vDiv := vInt CDiv (· / ·)
theorem op2_div {F : Fam} : Op2 F (binaryOp .FloorDiv) vDiv := ⟨_, fun i => op_fdiv, sem_int fun _ _ h => h⟩
def vPow := vInt CPow (fun i j => i ^ j.toNat)
theorem op2_pow {F : Fam} : Op2 F (binaryOp .Pow) vPow := ⟨_, fun i => op_pow, sem_int fun _ _ h => h⟩
def eNeg (f : Fe) : Fe := fun ρ M => match f ρ M with
  | some (.int i, M1) => some (.int (-i), M1)
  | _ => none
theorem se_neg {F : Fam} {a : Expr} {f : Fe} {pos : Pos} (h : SE F a f) : SE F (.UnaryOp .USub a pos) (eNeg f) := by
  obtain ⟨ta, pa, sa⟩ := h
  refine ⟨_, fun i => pe_un un_neg (pa i), fun σ H μ ρ M v M' Q h rσ rs q => ?_⟩
  unfold eNeg at h
  split at h
  · cases h
    refine sa σ H μ ρ M _ _ _ (by assumption) rσ rs fun w1 μ1 H1 e1 r1 s1 => ?_
    cases r1
    exact ⟨_, rfl, q _ μ1 H1 e1 (.int _) s1⟩
  · cases h
/-! ### order -/
def vCmp (g : Int → Int → Bool) : Vl → Vl → Mem → Option (Vl × Mem)
  | .int i, .int j, M => some (.bl (g i j), M)
  | _, _, _ => none
theorem sem_cmp {K : PySem.W.Frag} {T : List Addr} {g : Int → Int → Bool} : Sem2 K T (rI0 fun i j => .bl (g i j)) (vCmp g) := by
  intro H μ M x y wx wy v M' Q h rx ry rs q
  cases rx <;> cases ry <;> simp only [vCmp] at h <;> try (cases h; done)
  cases h
  exact ⟨_, _, rfl, rfl, q _ μ H (Ext.refl _ _) (.bl _) rs⟩
def vLt : Vl → Vl → Mem → Option (Vl × Mem)
  | .int i, .int j, M => some (.bl (decide (i < j)), M)
  | .str a, .str b, M => some (.bl (decide (a.cps.toList < b.cps.toList)), M)
  | _, _, _ => none
theorem op2_lt {F : Fam} : Op2 F (compareOp .Lt) vLt := by
  refine ⟨_, fun i => (op_lt (X := F.X i)).or op_lt_str, ?_⟩
  intro H μ M x y wx wy v M' Q h rx ry rs q
  cases rx <;> cases ry <;> simp only [vLt] at h <;> try (cases h; done)
  · cases h
    exact .inl ⟨_, _, rfl, rfl, q _ μ H (Ext.refl _ _) (.bl _) rs⟩
  · cases h
    exact .inr ⟨_, _, rfl, rfl, q _ μ H (Ext.refl _ _) (.bl _) rs⟩
def vLe := vCmp fun i j => decide (i ≤ j)
def vGt := vCmp fun i j => decide (j < i)
def vGe := vCmp fun i j => decide (j ≤ i)
theorem op2_le {F : Fam} : Op2 F (compareOp .LtE) vLe := ⟨_, fun i => op_le, sem_cmp⟩
theorem op2_gt {F : Fam} : Op2 F (compareOp .Gt) vGt := ⟨_, fun i => op_gt, sem_cmp⟩
theorem op2_ge {F : Fam} : Op2 F (compareOp .GtE) vGe := ⟨_, fun i => op_ge, sem_cmp⟩
/-! ### data: ==, in -/
def mapO {α β : Type} (g : α → Option β) : List α → Option (List β)
  | [] => some []
  | x :: xs => match g x, mapO g xs with
    | some y, some ys => some (y :: ys)
    | _, _ => none
def toD : Nat → Mem → Vl → Option PyData
  | 0, _, _ => none
  | _ + 1, _, .non => some .none
  | _ + 1, _, .bl b => some (.bool b)
  | _ + 1, _, .int i => some (.int i)
  | _ + 1, _, .str x => if PyData.strOk x then some (.str x) else none
  | n + 1, M, .tup _ xs => (mapO (toD n M) xs).map .tuple
  | n + 1, M, .ref k => match seqAt M k with
    | some xs => (mapO (toD n M) xs).map .list
    | none => none
theorem toD_all {K : PySem.W.Frag} {μ : List Addr} {H : Hp} {M : Mem} {n : Nat} (ih : ∀ (x : Vl) (w : V) (d : PyData), toD n M x = some d → Rv K μ H x w → Dp K H w d ∧ d.canLay0 = true ∧ d.depth ≤ n) :
    ∀ {xs : List Vl} {ws : List V} {ds : List PyData}, mapO (toD n M) xs = some ds → RvA K μ H xs ws → DpAll K H ws ds ∧ PyData.canLayAll0 ds = true ∧ PyData.depthAll ds ≤ n
  | [], _, _, h, .nil => by
    cases h
    exact ⟨.nil, rfl, Nat.zero_le _⟩
  | x :: xs, _, _, h, .cons r rs => by
    unfold mapO at h
    split at h
    · cases h
      obtain ⟨a1, a2, a3⟩ := ih _ _ _ (by assumption) r
      obtain ⟨b1, b2, b3⟩ := toD_all ih (by assumption) rs
      refine ⟨.cons a1 b1, ?_, ?_⟩
      · unfold PyData.canLayAll0
        rw [a2, b2]
        rfl
      · unfold PyData.depthAll
        omega
    · cases h
theorem toD_ok {K : PySem.W.Frag} {T : List Addr} {μ : List Addr} {H : Hp} {M : Mem} (rs : RS K T μ H M) : ∀ (n : Nat) (x : Vl) (w : V) (d : PyData), toD n M x = some d → Rv K μ H x w → Dp K H w d ∧ d.canLay0 = true ∧ d.depth ≤ n := by
  intro n
  induction n with
  | zero => intro x w d h; simp [toD] at h
  | succ n ih =>
    intro x w d h r
    cases r with
    | non => simp only [toD] at h; cases h; exact ⟨.non, rfl, by simp [PyData.depth]⟩
    | bl b => simp only [toD] at h; cases h; exact ⟨.bl b, rfl, by simp [PyData.depth]⟩
    | int b => simp only [toD] at h; cases h; exact ⟨.int b, rfl, by simp [PyData.depth]⟩
    | str b =>
      simp only [toD] at h
      split at h
      · cases h
        exact ⟨.str b, by assumption, by simp [PyData.depth]⟩
      · cases h
    | tup s r n9 =>
      simp only [toD] at h
      rw [Option.map_eq_some_iff] at h
      obtain ⟨ds, h1, rfl⟩ := h
      obtain ⟨a, b, c⟩ := toD_all ih h1 r
      exact ⟨.tup s a, b, Nat.succ_le_succ c⟩
    | ref hk =>
      simp only [toD] at h
      split at h
      · rw [Option.map_eq_some_iff] at h
        obtain ⟨ds, h1, rfl⟩ := h
        obtain ⟨o, h2, h3⟩ := seqAt_some (by assumption)
        obtain ⟨ws, s, r⟩ := rs.seq h2 h3 hk
        obtain ⟨a, b, c⟩ := toD_all ih h1 r
        exact ⟨.lst s a, b, Nat.succ_le_succ c⟩
      · cases h
def vEq : Vl → Vl → Mem → Option (Vl × Mem) := fun x y M => match toD 20 M x, toD 20 M y with
  | some d, some e => some (.bl (PyData.eqv d e), M)
  | _, _ => none
def vNe : Vl → Vl → Mem → Option (Vl × Mem) := fun x y M => match toD 20 M x, toD 20 M y with
  | some d, some e => some (.bl (!PyData.eqv d e), M)
  | _, _ => none
theorem shaped_of {d : PyData} (h1 : d.canLay0 = true) (h2 : d.depth < 22) : SeqAt.shaped d = true := by
  unfold SeqAt.shaped
  rw [h1, decide_eq_true (by omega)]
  rfl
theorem op2_eq {F : Fam} : Op2 F (compareOp .Eq) vEq := by
  refine ⟨_, fun i => F.hK i ▸ op_eqD (X := F.X i) (F.hr i).units, ?_⟩
  intro H μ M x y wx wy v M' Q h rx ry rs q
  unfold vEq at h
  split at h
  · cases h
    obtain ⟨a1, a2, a3⟩ := toD_ok rs 20 x wx _ (by assumption) rx
    obtain ⟨b1, b2, b3⟩ := toD_ok rs 20 y wy _ (by assumption) ry
    exact ⟨_, _, a1, b1, shaped_of a2 (by omega), shaped_of b2 (by omega), q _ μ H (Ext.refl _ _) (.bl _) rs⟩
  · cases h
theorem op2_ne {F : Fam} : Op2 F (compareOp .NotEq) vNe := by
  refine ⟨_, fun i => F.hK i ▸ op_neD (X := F.X i) (F.hr i).units, ?_⟩
  intro H μ M x y wx wy v M' Q h rx ry rs q
  unfold vNe at h
  split at h
  · cases h
    obtain ⟨a1, a2, a3⟩ := toD_ok rs 20 x wx _ (by assumption) rx
    obtain ⟨b1, b2, b3⟩ := toD_ok rs 20 y wy _ (by assumption) ry
    exact ⟨_, _, a1, b1, shaped_of a2 (by omega), shaped_of b2 (by omega), q _ μ H (Ext.refl _ _) (.bl _) rs⟩
  · cases h
def rInDT (K : PySem.W.Frag) : R2 := fun x y H Q => ∃ d ds, Dp K H x d ∧ Dp K H y (.tuple ds) ∧ SeqAt.shaped d = true ∧ SeqAt.shaped (.tuple ds) = true ∧ Q (.bl (ds.any fun z => PyData.eqv z d)) H
def rNotInDT (K : PySem.W.Frag) : R2 := fun x y H Q => ∃ d ds, Dp K H x d ∧ Dp K H y (.tuple ds) ∧ SeqAt.shaped d = true ∧ SeqAt.shaped (.tuple ds) = true ∧ Q (.bl (!ds.any fun z => PyData.eqv z d)) H
theorem op_inDT {X : Cx} (hu : X.A.units + 65 < cLine) : OpR X (compareOp .In) (rInDT X.K) := by
  intro pins s σ H x y v u Q I rx ry h
  obtain ⟨d, ds, hd, he, sd, se, q⟩ := h
  obtain ⟨as, r1⟩ := Dp.reads I d x v hd rx
  obtain ⟨bs, r2⟩ := Dp.reads I (.tuple ds) y u he ry
  exact SeqAt.in_tuple_reads r2 r1 (SeqAt.canLay_of_shaped se) (SeqAt.canLay_of_shaped sd) (room_in_shaped sd hu) ⟨.bl _, H, I, rfl, q⟩
theorem op_notInDT {X : Cx} (hu : X.A.units + 65 < cLine) : OpR X (compareOp .NotIn) (rNotInDT X.K) := by
  intro pins s σ H x y v u Q I rx ry h
  obtain ⟨d, ds, hd, he, sd, se, q⟩ := h
  obtain ⟨as, r1⟩ := Dp.reads I d x v hd rx
  obtain ⟨bs, r2⟩ := Dp.reads I (.tuple ds) y u he ry
  exact SeqAt.notIn_tuple_reads r2 r1 (SeqAt.canLay_of_shaped se) (SeqAt.canLay_of_shaped sd) (room_in_shaped sd hu) ⟨.bl _, H, I, rfl, q⟩
theorem units65 {k : Nat} {A : Around} (h : Room k A) : A.units + 65 < cLine := by have := h.un; omega
def inOf (M : Mem) (x y : Vl) : Option Bool := match x, y with
  | .str a, .str b => some (!(Builtin.Str.occurrences b a 0 b.length 1).isEmpty)
  | x, .tup dd ys => match toD 20 M x, toD 20 M (.tup dd ys) with
    | some d, some (.tuple ds) => some (ds.any fun z => PyData.eqv z d)
    | _, _ => none
  | x, .ref k => match toD 20 M x, toD 20 M (.ref k) with
    | some d, some (.list ds) => some (ds.any fun z => PyData.eqv z d)
    | _, _ => none
  | _, _ => none
def vIn : Vl → Vl → Mem → Option (Vl × Mem) := fun x y M => (inOf M x y).map fun b => (.bl b, M)
def vNotIn : Vl → Vl → Mem → Option (Vl × Mem) := fun x y M => (inOf M x y).map fun b => (.bl (!b), M)
theorem inOf_ok {K : PySem.W.Frag} {T : List Addr} {μ : List Addr} {H : Hp} {M : Mem} {x y : Vl} {wx wy : V} {b : Bool} (rs : RS K T μ H M) (rx : Rv K μ H x wx) (ry : Rv K μ H y wy) (h : inOf M x y = some b) {P : Prop}
    (h1 : ∀ a c, wx = .str a → wy = .str c → b = (!(Builtin.Str.occurrences c a 0 c.length 1).isEmpty) → P) (h2 : ∀ d ds, Dp K H wx d → Dp K H wy (.tuple ds) → SeqAt.shaped d = true → SeqAt.shaped (.tuple ds) = true → b = ds.any (fun z => PyData.eqv z d) → P)
    (h3 : ∀ d ds, Dp K H wx d → Dp K H wy (.list ds) → SeqAt.shaped d = true → SeqAt.shaped (.list ds) = true → b = ds.any (fun z => PyData.eqv z d) → P) : P := by
  unfold inOf at h
  split at h
  · cases h
    cases rx
    cases ry
    exact h1 _ _ rfl rfl rfl
  · split at h
    · cases h
      obtain ⟨a1, a2, a3⟩ := toD_ok rs 20 x wx _ (by assumption) rx
      obtain ⟨b1, b2, b3⟩ := toD_ok rs 20 _ wy _ (by assumption) ry
      exact h2 _ _ a1 b1 (shaped_of a2 (by omega)) (shaped_of b2 (by omega)) rfl
    · cases h
  · split at h
    · cases h
      obtain ⟨a1, a2, a3⟩ := toD_ok rs 20 x wx _ (by assumption) rx
      obtain ⟨b1, b2, b3⟩ := toD_ok rs 20 _ wy _ (by assumption) ry
      exact h3 _ _ a1 b1 (shaped_of a2 (by omega)) (shaped_of b2 (by omega)) rfl
    · cases h
  · cases h
theorem op2_in {F : Fam} : Op2 F (compareOp .In) vIn := by
  refine ⟨_, fun i => (op_in_str (X := F.X i)).or ((F.hK i ▸ op_inDT (X := F.X i) (units65 (F.hr i))).or (F.hK i ▸ op_inD (X := F.X i) (units65 (F.hr i)))), ?_⟩
  intro H μ M x y wx wy v M' Q h rx ry rs q
  unfold vIn at h
  rw [Option.map_eq_some_iff] at h
  obtain ⟨b, hb, e⟩ := h
  cases e
  refine inOf_ok rs rx ry hb (fun a c e1 e2 e3 => .inl ⟨a, c, e1, e2, ?_⟩) (fun d ds a1 a2 a3 a4 e => .inr (.inl ⟨d, ds, a1, a2, a3, a4, ?_⟩)) (fun d ds a1 a2 a3 a4 e => .inr (.inr ⟨d, ds, a1, a2, a3, a4, ?_⟩))
  · rw [← e3]
    exact q _ μ H (Ext.refl _ _) (.bl _) rs
  · rw [← e]
    exact q _ μ H (Ext.refl _ _) (.bl _) rs
  · rw [← e]
    exact q _ μ H (Ext.refl _ _) (.bl _) rs
theorem op2_notIn {F : Fam} : Op2 F (compareOp .NotIn) vNotIn := by
  refine ⟨_, fun i => (op_notIn_str (X := F.X i)).or ((F.hK i ▸ op_notInDT (X := F.X i) (units65 (F.hr i))).or (F.hK i ▸ op_notInD (X := F.X i) (units65 (F.hr i)))), ?_⟩
  intro H μ M x y wx wy v M' Q h rx ry rs q
  unfold vNotIn at h
  rw [Option.map_eq_some_iff] at h
  obtain ⟨b, hb, e⟩ := h
  cases e
  refine inOf_ok rs rx ry hb (fun a c e1 e2 e3 => .inl ⟨a, c, e1, e2, ?_⟩) (fun d ds a1 a2 a3 a4 e => .inr (.inl ⟨d, ds, a1, a2, a3, a4, ?_⟩)) (fun d ds a1 a2 a3 a4 e => .inr (.inr ⟨d, ds, a1, a2, a3, a4, ?_⟩))
  · rw [← e3]
    exact q _ μ H (Ext.refl _ _) (.bl _) rs
  · rw [← e]
    exact q _ μ H (Ext.refl _ _) (.bl _) rs
  · rw [← e]
    exact q _ μ H (Ext.refl _ _) (.bl _) rs
end Sh

set_option Elab.async false
set_option linter.all false
set_option maxRecDepth 100000
set_option maxHeartbeats 2000000
namespace Sh
open PySem PySem.Spec PyProof.Rows L2 NdefX GenE
open GxR (TabB TabG Tabbed)
section
variable {F : Fam} {e a b c o : Expr} {f fa fb fc : Fe} {pos p apos : Pos} {es : List Expr} {g : Fa}
/-! ### subscripts -/
theorem RvA.atI {K : PySem.W.Frag} {μ : List Addr} {H : Hp} {xs : List Vl} {ws : List V} {i : Int} {x : Vl} (r : RvA K μ H xs ws) (h : atI xs i = some x) : ∃ w, L2.atI ws i = some w ∧ Rv K μ H x w := by
  unfold L2.atI at h ⊢
  rw [← r.length]
  cases e : ixN xs.length i with
  | none => rw [e] at h; cases h
  | some j =>
    rw [e] at h
    exact r.get h
def vIx : Vl → Vl → Mem → Option (Vl × Mem)
  | .tup _ xs, .int i, M => (atI xs i).map fun x => (x, M)
  | .ref k, .int i, M => match seqAt M k with
    | some xs => (atI xs i).map fun x => (x, M)
    | none => none
  | .str z, .int i, M => if z.length ≤ lim then (atI z.cps.toList i).map fun c => (.str ⟨#[c]⟩, M) else none
  | _, _, _ => none
theorem se_ix (ha : SE F a fa) (hb : SE F b fb) (hs : PlainIx b := by exact fun _ _ => rfl) : SE F (.Subscript a b pos) (e2 vIx fa fb) := by
  obtain ⟨ta, pa, sa⟩ := ha
  obtain ⟨tb, pb, sb⟩ := hb
  refine ⟨_, fun i => pe_ix ((F.hK i ▸ ix_tup (X := F.X i)).or ((F.hK i ▸ ix_list (X := F.X i)).or ix_str)) (pa i) (pb i) hs, semOp ?_ sa sb⟩
  intro H μ M x y wx wy v M' Q h rx ry rs q
  cases rx <;> cases ry <;> simp only [vIx] at h <;> try (cases h; done)
  · split at h
    · rw [Option.map_eq_some_iff] at h
      obtain ⟨c, hc, e⟩ := h
      cases e
      exact .inr (.inr ⟨_, _, c, rfl, rfl, le_lim (by assumption), hc, q _ μ H (Ext.refl _ _) (.str _) rs⟩)
    · cases h
  · rename_i a _ xs ws sa ra na i
    rw [Option.map_eq_some_iff] at h
    obtain ⟨x, hx, e⟩ := h
    cases e
    obtain ⟨w, hw, rw'⟩ := ra.atI hx
    exact .inl ⟨a, ws, i, w, rfl, rfl, sa, hw, q _ μ H (Ext.refl _ _) rw' rs⟩
  · rename_i k a hk i
    split at h
    · rw [Option.map_eq_some_iff] at h
      obtain ⟨x, hx, e⟩ := h
      cases e
      obtain ⟨o, h1, h2⟩ := seqAt_some (by assumption)
      obtain ⟨ws, sq, ra⟩ := rs.seq h1 h2 hk
      obtain ⟨w, hw, rw'⟩ := ra.atI hx
      exact .inr (.inl ⟨a, ws, i, w, rfl, rfl, sq, hw, q _ μ H (Ext.refl _ _) rw' rs⟩)
    · cases h
/-! ### slices -/
abbrev Fo := Env → Mem → Option (Option Int × Mem)
def oNone : Fo := fun _ M => some (none, M)
def oSome (f : Fe) : Fo := fun ρ M => match f ρ M with
  | some (.int i, M1) => some (some i, M1)
  | _ => none
def SO (F : Fam) (oe : Option Expr) (f : Fo) : Prop := ∃ to, (∀ i, PO (F.X i) oe to) ∧ ∀ (σ : L2.St) (H : Hp) (μ : List Addr) (ρ : Env) (M : Mem) (v : Option Int) (M' : Mem) (Q : Option Int → Hp → Prop), f ρ M = some (v, M') → Rσ F.K μ H ρ σ → RS F.K F.T μ H M →
  (∀ μ' H', Ext μ H μ' H' → RS F.K F.T μ' H' M' → Q v H') → to σ H Q
theorem so_none : SO F none oNone := ⟨_, fun _ => po_none, fun σ H μ ρ M v M' Q h rσ rs q => by cases h; exact q μ H (Ext.refl _ _) rs⟩
theorem so_some (h : SE F e f) : SO F (some e) (oSome f) := by
  obtain ⟨ta, pa, sa⟩ := h
  refine ⟨_, fun i => po_some (pa i), fun σ H μ ρ M v M' Q h rσ rs q => ?_⟩
  unfold oSome at h
  split at h
  · cases h
    refine sa σ H μ ρ M _ _ _ (by assumption) rσ rs fun w1 μ1 H1 e1 r1 s1 => ?_
    cases r1
    exact ⟨_, rfl, q μ1 H1 e1 s1⟩
  · cases h
def cutL {α : Type} (xs : List α) (lo hi : Option Int) : List α := (xs.drop (HT.sIx xs.length 0 lo)).take (HT.sIx xs.length xs.length hi - HT.sIx xs.length 0 lo)
theorem RvA.cut {K : PySem.W.Frag} {μ : List Addr} {H : Hp} {xs : List Vl} {ws : List V} (r : RvA K μ H xs ws) (lo hi : Option Int) : RvA K μ H (cutL xs lo hi) (cutV ws lo hi) := by
  unfold cutL cutV
  rw [r.length]
  exact (r.drop _).take _
def vSl : Vl → Option Int → Option Int → Mem → Option (Vl × Mem)
  | .tup _ xs, lo, hi, M => some (.tup false (cutL xs lo hi), M)
  | .str z, lo, hi, M => if z.length ≤ lim then some (.str (cutS z lo hi), M) else none
  | .ref k, lo, hi, M => match seqAt M k with
    | some xs => some (.ref M.length, M ++ [.lst (cutL xs lo hi)])
    | none => none
  | _, _, _, _ => none
def eSl (f : Fe) (l h : Fo) : Fe := fun ρ M => match f ρ M with
  | some (v, M1) => match l ρ M1 with
    | some (lo, M2) => match h ρ M2 with
      | some (hi, M3) => vSl v lo hi M3
      | none => none
    | none => none
  | none => none
theorem se_slice {lo hi : Option Expr} {fl fh : Fo} {p2 : Pos} (he : SE F e f) (hl : SO F lo fl) (hh : SO F hi fh) : SE F (.Subscript e (.Slice lo hi none p2) pos) (eSl f fl fh) := by
  obtain ⟨te, pe, se⟩ := he
  obtain ⟨tl, pl, sl⟩ := hl
  obtain ⟨th, ph, sh⟩ := hh
  refine ⟨_, fun i => pe_slice ((F.hK i ▸ sl_tupA (X := F.X i)).or ((F.hK i ▸ sl_list (X := F.X i)).or sl_str)) (pe i) (pl i) (ph i), fun σ H μ ρ M v M' Q h rσ rs q => ?_⟩
  unfold eSl at h
  split at h
  · rename_i _ x M1 h1
    split at h
    · rename_i _ l M2 h2
      split at h
      · rename_i _ u M3 h3
        refine se σ H μ ρ M _ _ _ h1 rσ rs fun w1 μ1 H1 e1 r1 s1 => ?_
        refine sl σ H1 μ1 ρ M1 _ _ _ h2 (rσ.ext e1) s1 fun μ2 H2 e2 s2 => ?_
        refine sh σ H2 μ2 ρ M2 _ _ _ h3 (rσ.ext (e1.trans e2)) s2 fun μ3 H3 e3 s3 => ?_
        have e13 := (e1.trans e2).trans e3
        have r3 := r1.ext (e2.trans e3)
        have q' := fun w μ' H' e r s => q w μ' H' (e13.trans e) r s
        cases r3 <;> simp only [vSl] at h <;> try (cases h; done)
        · split at h
          · cases h
            exact .inr (.inr ⟨_, rfl, le_lim (by assumption), q' _ μ3 H3 (Ext.refl _ _) (.str _) s3⟩)
          · cases h
        · rename_i a _ xs ws sa ra na
          cases h
          refine .inl ⟨a, ws, rfl, sa, fun hz => ?_, fun _ p np => ?_⟩
          · have e9 : cutL xs l u = xs := by
              unfold cutL
              rw [ra.length, hz.1, hz.2, List.drop_zero, Nat.sub_zero, ← ra.length]
              exact List.take_length
            rw [e9] at q'
            exact q' _ μ3 H3 (Ext.refl _ _) (.tup sa ra nofun) s3
          · obtain ⟨s4, e4, r4⟩ := s3.tup np (ra.cut l u)
            exact q' _ μ3 _ e4 r4 s4
        · rename_i k a hk
          split at h
          · cases h
            obtain ⟨o, g1, g2⟩ := seqAt_some (by assumption)
            obtain ⟨ws, sq, ra⟩ := s3.seq g1 g2 hk
            refine .inr (.inl ⟨a, ws, rfl, sq, fun p np => ?_⟩)
            obtain ⟨s4, e4, r4⟩ := s3.alloc (u := .lst (cutV ws l u)) (o := .lst _) np fun e => ⟨_, upd_same, (ra.cut l u).ext e⟩
            exact q' _ _ _ e4 r4 s4
          · cases h
      · cases h
    · cases h
  · cases h
/-! ### built-ins -/
theorem semCB {r : List V → Hp → VK → Prop} {op : List Vl → Mem → Option (Vl × Mem)} {t : TA} (hs : SemL F.K F.T r op) (h : SemA F.K F.T t g) : SemE F.K F.T (tCB r t) (eA op g) := by
  intro σ H μ ρ M v M' Q h1 rσ rs q
  unfold eA at h1
  split at h1
  · refine h σ H μ ρ M _ _ _ (by assumption) rσ rs fun w1 μ1 H1 e1 r1 s1 => ?_
    exact hs H1 μ1 _ _ w1 v M' Q h1 r1 s1 fun w2 μ2 H2 e2 r2 s2 => q w2 μ2 H2 (e1.trans e2) r2 s2
  · cases h1
theorem se_blt {x : Str} {id : String} {r : List V → Hp → VK → Prop} {op : List Vl → Mem → Option (Vl × Mem)} (hc : ∀ i, CallR (F.X i) (.builtin id) r) (hs : SemL F.K F.T r op) (hg : Glb F x) (hm : F.mg x = none) (hv : bootBuiltins x = some (.builtin id)) (ha : SA F (e :: es) g)
    (hn : x ≠ "__name__" := by decide) (hdb : (x == ("__debug__" : Str)) = false := by decide) (he : ∀ env, starEach (e :: es) env = (false, eval e env) :: starEach es env := by intro _; rfl) (hpl : ∀ env, (backTo pos (starEach es env)).any (·.1) = false := by intro _; rfl) :
    SE F (.Call (.Name x p) (e :: es) [] pos) (eA op g) := by
  obtain ⟨⟨ta, pa, sa⟩, _⟩ := ha
  exact ⟨_, fun i => pe_callB (hc i) (hg.gl i) (by rw [F.hmg i]; exact hm) hv (pa i) hn hdb (he _) (hpl _), semCB hs sa⟩
theorem se_bty {x : Str} {id : String} {r : List V → Hp → VK → Prop} {op : List Vl → Mem → Option (Vl × Mem)} (hc : ∀ i, CallR (F.X i) (.type id) r) (hs : SemL F.K F.T r op) (hg : Glb F x) (hm : F.mg x = none) (hv : bootBuiltins x = some (.type id)) (ha : SA F (e :: es) g)
    (hn : x ≠ "__name__" := by decide) (hdb : (x == ("__debug__" : Str)) = false := by decide) (he : ∀ env, starEach (e :: es) env = (false, eval e env) :: starEach es env := by intro _; rfl) (hpl : ∀ env, (backTo pos (starEach es env)).any (·.1) = false := by intro _; rfl) :
    SE F (.Call (.Name x p) (e :: es) [] pos) (eA op g) := by
  obtain ⟨⟨ta, pa, sa⟩, _⟩ := ha
  exact ⟨_, fun i => pe_callTy (hc i) (hg.gl i) (by rw [F.hmg i]; exact hm) hv (pa i) hn hdb (he _) (hpl _), semCB hs sa⟩
theorem RvA.one {K : PySem.W.Frag} {μ : List Addr} {H : Hp} {x : Vl} {ws : List V} (r : RvA K μ H [x] ws) : ∃ w, ws = [w] ∧ Rv K μ H x w := by
  cases r with
  | cons a b => cases b; exact ⟨_, rfl, a⟩
def v1 (op : Vl → Mem → Option (Vl × Mem)) : List Vl → Mem → Option (Vl × Mem)
  | [x], M => op x M
  | _, _ => none
theorem semL1 {K : PySem.W.Frag} {T : List Addr} {r : List V → Hp → VK → Prop} {op : Vl → Mem → Option (Vl × Mem)} (hh : ∀ (H : Hp) (μ : List Addr) (M : Mem) (x : Vl) (w : V) (v : Vl) (M' : Mem) (Q : VK), op x M = some (v, M') → Rv K μ H x w → RS K T μ H M →
    (∀ w μ' H', Ext μ H μ' H' → Rv K μ' H' v w → RS K T μ' H' M' → Q w H') → r [w] H Q) : SemL K T r (v1 op) := by
  intro H μ M xs ws v M' Q h r1 rs q
  match xs, h, r1 with
  | [x], h, r1 =>
    obtain ⟨w, e, r2⟩ := r1.one
    subst e
    exact hh H μ M x w v M' Q h r2 rs q
  | [], h, _ => cases h
  | _ :: _ :: _, h, _ => cases h
def vLen : Vl → Mem → Option (Vl × Mem)
  | .tup _ xs, M => some (.int xs.length, M)
  | .str z, M => if z.length ≤ lim then some (.int z.length, M) else none
  | .ref k, M => match seqAt M k with
    | some xs => some (.int xs.length, M)
    | none => none
  | _, _ => none
theorem sem_len {K : PySem.W.Frag} {T : List Addr} : SemL K T (fun xs H Q => (∃ p ys, xs = [.ref p] ∧ (SqL K H p ys ∨ SqT K H p ys) ∧ Q (.int ys.length) H) ∨ (∃ z, xs = [.str z] ∧ z.length ≤ sizeLine ∧ Q (.int z.length) H)) (v1 vLen) := by
  refine semL1 fun H μ M x w v M' Q h r rs q => ?_
  · cases r <;> simp only [vLen] at h <;> try (cases h; done)
    · split at h
      · cases h
        exact .inr ⟨_, rfl, le_lim (by assumption), q _ μ H (Ext.refl _ _) (.int _) rs⟩
      · cases h
    · cases h
      rename_i a _ xs ws sa ra na
      refine .inl ⟨a, ws, rfl, .inr sa, ?_⟩
      rw [ra.length] at q
      exact q _ μ H (Ext.refl _ _) (.int _) rs
    · split at h
      · cases h
        rename_i k a hk _ xs hs
        obtain ⟨o, g1, g2⟩ := seqAt_some hs
        obtain ⟨ws, sq, ra⟩ := rs.seq g1 g2 hk
        refine .inl ⟨a, ws, rfl, .inl sq, ?_⟩
        rw [ra.length] at q
        exact q _ μ H (Ext.refl _ _) (.int _) rs
      · cases h
theorem se_len (hg : Glb F "len") (hm : F.mg "len" = none) (ha : SE F e f) (hs : ∀ env, starEach [e] env = (false, eval e env) :: starEach [] env := by intro _; rfl) : SE F (.Call (.Name "len" p) [e] [] pos) (eA (v1 vLen) (aCons f aNil)) :=
  se_blt (fun i => (F.hK i ▸ call_len_seq (X := F.X i)).or call_len_str) sem_len hg hm PySem.boot_len (sa_cons ha sa_nil hs) (he := hs)
/-! isinstance -/
def tyN (M : Mem) : Vl → Option String
  | .non => some "NoneType"
  | .bl _ => some "bool"
  | .int _ => some "int"
  | .str _ => some "str"
  | .tup _ _ => some "tuple"
  | .ref k => match M[k]? with
    | some (.lst _) => some "list"
    | some (.dic _) => some "dict"
    | _ => none
def eIsi (T : String) (f : Fe) : Fe := fun ρ M => match f ρ M with
  | some (v, M1) => match tyN M1 v with
    | some t => (kitB t T).map fun b => (.bl b, M1)
    | none => none
  | none => none
theorem tyX_of {K : PySem.W.Frag} {T : List Addr} {μ : List Addr} {H : Hp} {M : Mem} {x : Vl} {w : V} {t : String} (rs : RS K T μ H M) (r : Rv K μ H x w) (h : tyN M x = some t) : TyX K H w (.type t) := by
  cases r <;> simp only [tyN] at h
  · cases h; exact .base .non
  · cases h; exact .base (.bl _)
  · cases h; exact .base (.int _)
  · cases h; exact .base (.str _)
  · cases h
    rename_i a _ xs ws sa ra na
    rcases sa with (h | ⟨o, h⟩) | ⟨o, its, n, h, hc, _⟩
    · exact .base (.tup h)
    · exact .fTuple h
    · exact .kTuple h hc
  · split at h
    · cases h
      rename_i k a hk _ xs hs
      obtain ⟨ws, e, _⟩ := rs.lst hs hk
      exact .base (.lst e)
    · cases h
      rename_i k a hk _ xs hs
      obtain ⟨ws, e, _⟩ := rs.mem.ob k _ a hs hk
      exact .base (.dK e)
    · cases h
theorem se_isi {x : Str} {T : String} (hg : Glb F "isinstance") (hm : F.mg "isinstance" = none) (hgx : Glb F x) (hmx : F.mg x = none) (hv : bootBuiltins x = some (.type T)) (ha : SE F e f) (hs : ∀ env, starEach [e, .Name x p] env = (false, eval e env) :: starEach [.Name x p] env := by intro _; rfl)
    (hpl : ∀ env, (backTo pos (starEach [.Name x p] env)).any (·.1) = false := by intro _; rfl) (hn : x ≠ "__name__" := by decide) (hdb : (x == ("__debug__" : Str)) = false := by decide) (hb : bootBuiltins "isinstance" = some (.builtin "isinstance") := by decide +kernel) :
    SE F (.Call (.Name "isinstance" apos) [e, .Name x p] [] pos) (eIsi T f) := by
  obtain ⟨ta, pa, sa⟩ := ha
  refine ⟨_, fun i => pe_callB (F.hK i ▸ call_isi (X := F.X i)) (hg.gl i) (by rw [F.hmg i]; exact hm) hb (pa_cons (pa i) (pa_cons (pe_bltn (v := .ty T) (hgx.gl i) (by rw [F.hmg i]; exact hmx) hv rfl hn hdb) pa_nil) (hs _)) (by decide) (by decide) (hs _) (hpl _), fun σ H μ ρ M v M' Q h rσ rs q => ?_⟩
  unfold eIsi at h
  split at h
  · split at h
    · rename_i _ y M1 h1 _ t ht
      rw [Option.map_eq_some_iff] at h
      obtain ⟨b, hb', e⟩ := h
      cases e
      refine sa σ H μ ρ M _ _ _ h1 rσ rs fun w1 μ1 H1 e1 r1 s1 => ?_
      exact ⟨w1, .ty T, .type t, .type T, b, rfl, .ty T, tyX_of s1 r1 ht, kit_ty hb', q _ μ1 H1 e1 (.bl b) s1⟩
    · cases h
  · cases h
/-! list(x), tuple(x), all([..]) -/
def vList : Vl → Mem → Option (Vl × Mem)
  | .tup _ xs, M => some (.ref M.length, M ++ [.lst xs])
  | .ref k, M => match seqAt M k with
    | some xs => some (.ref M.length, M ++ [.lst xs])
    | none => none
  | _, _ => none
theorem se_list (hg : Glb F "list") (hm : F.mg "list" = none) (ha : SE F e f) (hs : ∀ env, starEach [e] env = (false, eval e env) :: starEach [] env := by intro _; rfl) : SE F (.Call (.Name "list" p) [e] [] pos) (eA (v1 vList) (aCons f aNil)) := by
  refine se_bty (fun i => (F.hK i ▸ call_list_of (X := F.X i))) ?_ hg hm (by decide +kernel) (sa_cons ha sa_nil hs) (he := hs)
  refine semL1 fun H μ M x w v M' Q h r rs q => ?_
  · cases r <;> simp only [vList] at h <;> try (cases h; done)
    · cases h
      rename_i a _ xs ws sa ra na
      refine ⟨a, ws, rfl, .inr sa, fun p np => ?_⟩
      obtain ⟨s4, e4, r4⟩ := rs.alloc (u := .lst ws) (o := .lst _) np fun e => ⟨_, upd_same, ra.ext e⟩
      exact q _ _ _ e4 r4 s4
    · split at h
      · cases h
        rename_i k a hk _ xs hs
        obtain ⟨o, g1, g2⟩ := seqAt_some hs
        obtain ⟨ws, sq, ra⟩ := rs.seq g1 g2 hk
        refine ⟨a, ws, rfl, .inl sq, fun p np => ?_⟩
        obtain ⟨s4, e4, r4⟩ := rs.alloc (u := .lst ws) (o := .lst _) np fun e => ⟨_, upd_same, ra.ext e⟩
        exact q _ _ _ e4 r4 s4
      · cases h
def vTuple : Vl → Mem → Option (Vl × Mem)
  | .tup d xs, M => some (.tup d xs, M)
  | .ref k, M => match seqAt M k with
    | some xs => some (.tup true xs, M)
    | none => none
  | _, _ => none
def rTupN (K : PySem.W.Frag) : List V → Hp → VK → Prop := fun xs H Q => ∃ p ys, xs = [.ref p] ∧ ((SqL K H p ys ∧ ∀ (l : Addr) (o : Obj), H l = none → o.dict = none → Q (.ref l) (upd H l (.frz o (.tup ys)))) ∨ (SqT K H p ys ∧ Q (.ref p) H))
theorem call_tupN {X : Cx} : CallR X (.type "tuple") (rTupN X.K) := by
  intro pins s σ H xs us Q I rr h
  obtain ⟨p, ys, e, h⟩ := h
  subst e
  obtain ⟨u, eu, rx⟩ := vals1 rr
  subst eu
  cases rx
  rcases h with ⟨hq, q⟩ | ⟨hq, q⟩
  · obtain ⟨its, rv, pl, hz⟩ := I.list hq
    have hlen := rv.length
    refine call_tuple_list pl.isList (fun hp kp => ?_) (by simp only [List.size_toArray] <;> omega)
    have J1 : Inv X pins σ H { s with heap := hp } := I.kept (t' := s.toks) kp
    have eo : (hp.push { cls := .type "tuple", data := .seq its.toArray }).get? hp.objs.size = some ({ cls := .type "tuple", data := .seq its.toArray } : Obj) := Heap.get?_push_size _ rfl
    have J2 : Inv X pins σ (upd H hp.objs.size (.frz { cls := .type "tuple", data := .seq its.toArray } (.tup ys))) { s with heap := hp.push { cls := .type "tuple", data := .seq its.toArray } } :=
      J1.laid (t' := s.toks) (fun b o e => Heap.get?_push_of_some _ e) (Nat.le_refl _) ⟨eo, hz, its, rv, IsTup.new _ _⟩
    exact ⟨.ref hp.objs.size, _, J2, rfl, q _ _ (J1.hok.fresh (Nat.le_refl _)) rfl⟩
  · obtain ⟨its, rv, pl, hz⟩ := I.tuple hq
    exact call_tuple_same pl ⟨.ref p, H, I, rfl, q⟩
theorem se_tuple (hg : Glb F "tuple") (hm : F.mg "tuple" = none) (ha : SE F e f) (hs : ∀ env, starEach [e] env = (false, eval e env) :: starEach [] env := by intro _; rfl) : SE F (.Call (.Name "tuple" p) [e] [] pos) (eA (v1 vTuple) (aCons f aNil)) := by
  refine se_bty (fun i => (F.hK i ▸ call_tupN (X := F.X i))) ?_ hg hm (by decide +kernel) (sa_cons ha sa_nil hs) (he := hs)
  refine semL1 fun H μ M x w v M' Q h r rs q => ?_
  · cases r <;> simp only [vTuple] at h <;> try (cases h; done)
    · cases h
      rename_i a _ xs ws sa ra na
      exact ⟨a, ws, rfl, .inr ⟨sa, q _ μ H (Ext.refl _ _) (.tup sa ra na) rs⟩⟩
    · split at h
      · cases h
        rename_i k a hk _ xs hs
        obtain ⟨o, g1, g2⟩ := seqAt_some hs
        obtain ⟨ws, sq, ra⟩ := rs.seq g1 g2 hk
        refine ⟨a, ws, rfl, .inl ⟨sq, fun p o np no => ?_⟩⟩
        obtain ⟨s4, e4, r4⟩ := rs.tupN np ra no
        exact q _ _ _ e4 r4 s4
      · cases h
def bools : List Vl → Option (List Bool)
  | [] => some []
  | .bl b :: xs => (bools xs).map (b :: ·)
  | _ => none
theorem bools_ok {K : PySem.W.Frag} {μ : List Addr} {H : Hp} : ∀ {xs : List Vl} {ws : List V} {bs : List Bool}, bools xs = some bs → RvA K μ H xs ws → ws = bs.map V.bl
  | [], _, _, h, .nil => by cases h; rfl
  | x :: xs, _, _, h, .cons r rs => by
    cases r <;> simp only [bools] at h <;> try (cases h; done)
    rw [Option.map_eq_some_iff] at h
    obtain ⟨bs, h1, rfl⟩ := h
    rw [bools_ok h1 rs]
    rfl
def vAll : Vl → Mem → Option (Vl × Mem)
  | .ref k, M => match seqAt M k with
    | some xs => (bools xs).map fun bs => (.bl (bs.all id), M)
    | none => none
  | _, _ => none
theorem se_allL (hg : Glb F "all") (hm : F.mg "all" = none) (ha : SE F e f) (hs : ∀ env, starEach [e] env = (false, eval e env) :: starEach [] env := by intro _; rfl) : SE F (.Call (.Name "all" p) [e] [] pos) (eA (v1 vAll) (aCons f aNil)) := by
  refine se_blt (fun i => (F.hK i ▸ cr_all (X := F.X i) (F.hcalm i))) ?_ hg hm (by decide +kernel) (sa_cons ha sa_nil hs) (he := hs)
  refine semL1 fun H μ M x w v M' Q h r rs q => ?_
  · cases r <;> simp only [vAll] at h <;> try (cases h; done)
    split at h
    · rw [Option.map_eq_some_iff] at h
      obtain ⟨bs, hb, e⟩ := h
      cases e
      rename_i k a hk _ xs hs
      obtain ⟨o, g1, g2⟩ := seqAt_some hs
      obtain ⟨ws, sq, ra⟩ := rs.seq g1 g2 hk
      have e := bools_ok hb ra
      subst e
      exact ⟨a, bs, rfl, sq, q _ μ H (Ext.refl _ _) (.bl _) rs⟩
    · cases h
/-! ### methods -/
def txts : List Vl → Option (List Str)
  | [] => some []
  | .str b :: xs => (txts xs).map (b :: ·)
  | _ => none
theorem txts_ok {K : PySem.W.Frag} {μ : List Addr} {H : Hp} : ∀ {xs : List Vl} {ws : List V} {bs : List Str}, txts xs = some bs → RvA K μ H xs ws → ws = bs.map V.str
  | [], _, _, h, .nil => by cases h; rfl
  | x :: xs, _, _, h, .cons r rs => by
    cases r <;> simp only [txts] at h <;> try (cases h; done)
    rw [Option.map_eq_some_iff] at h
    obtain ⟨bs, h1, rfl⟩ := h
    rw [txts_ok h1 rs]
    rfl
def vJoin : Vl → Vl → Mem → Option (Vl × Mem)
  | .str a, .ref k, M => match seqAt M k with
    | some xs => match txts xs with
      | some ys => if (ys.map (·.length)).sum + ys.length * a.length ≤ lim then some (.str (Txt.join a ys), M) else none
      | none => none
    | none => none
  | .str a, .tup _ xs, M => match txts xs with
      | some ys => if (ys.map (·.length)).sum + ys.length * a.length ≤ lim then some (.str (Txt.join a ys), M) else none
      | none => none
  | _, _, _ => none
theorem se_join (ho : SE F o fa) (he : SE F e f) (hs : ∀ env, starEach [e] env = [(false, eval e env)] := by intro _; rfl) (hbase : ∀ env, attributeBase o "join" env (eval o env) = eval o env := by intro _; rfl) (hline : (apos.endLine == pos.line) = true := by rfl) :
    SE F (.Call (.Attribute o "join" apos) [e] [] pos) (e2 vJoin fa f) := by
  obtain ⟨to, po, so⟩ := ho
  obtain ⟨te, pe, se⟩ := he
  refine ⟨_, fun i => F.hK i ▸ pe_join (po i) (pe i) (hs _) (hbase _) hline, fun σ H μ ρ M v M' Q h rσ rs q => ?_⟩
  obtain ⟨x, M1, y, M2, h1, h2, h3⟩ := e2_some h
  refine so σ H μ ρ M _ _ _ h1 rσ rs fun w1 μ1 H1 e1 r1 s1 => ?_
  have hx : ∃ a, x = .str a := by
    cases x <;> simp only [vJoin] at h3 <;> first | exact ⟨_, rfl⟩ | cases h3
  obtain ⟨a, rfl⟩ := hx
  cases r1
  refine ⟨⟨a, rfl⟩, se σ H1 μ1 ρ M1 _ _ _ h2 (rσ.ext e1) s1 fun w2 μ2 H2 e2 r2 s2 => ?_⟩
  have e12 := e1.trans e2
  cases r2 <;> simp only [vJoin] at h3 <;> try (cases h3; done)
  · rename_i b _ xs ws sa ra na
    split at h3
    · split at h3
      · cases h3
        have ew := txts_ok (by assumption) ra
        subst ew
        exact ⟨a, b, _, rfl, rfl, .inr sa, Nat.le_trans (by assumption) (by decide), q _ μ2 H2 e12 (.str _) s2⟩
      · cases h3
    · cases h3
  · rename_i k b hk
    split at h3
    · split at h3
      · split at h3
        · cases h3
          obtain ⟨o, g1, g2⟩ := seqAt_some (by assumption)
          obtain ⟨ws, sq, ra⟩ := s2.seq g1 g2 hk
          have ew := txts_ok (by assumption) ra
          subst ew
          exact ⟨a, b, _, rfl, rfl, .inl sq, Nat.le_trans (by assumption) (by decide), q _ μ2 H2 e12 (.str _) s2⟩
        · cases h3
      · cases h3
    · cases h3
def vSIndex : Vl → Vl → Mem → Option (Vl × Mem)
  | .str a, .str b, M => match Builtin.Str.occurrences a b 0 a.length 1 with
    | i :: _ => some (.int (i : Nat), M)
    | [] => none
  | _, _, _ => none
theorem se_sindex (ho : SE F o fa) (he : SE F e f) (hs : ∀ env, starEach [e] env = [(false, eval e env)] := by intro _; rfl) (hbase : ∀ env, attributeBase o "index" env (eval o env) = eval o env := by intro _; rfl) (hline : (apos.endLine == pos.line) = true := by rfl) :
    SE F (.Call (.Attribute o "index" apos) [e] [] pos) (e2 vSIndex fa f) := by
  obtain ⟨to, po, so⟩ := ho
  obtain ⟨te, pe, se⟩ := he
  refine ⟨_, fun i => pe_m1 PySem.F.slot_str_index PySem.F.type_str_index mt_sindex (po i) (pe i) (hs _) (hbase _) hline, fun σ H μ ρ M v M' Q h rσ rs q => ?_⟩
  obtain ⟨x, M1, y, M2, h1, h2, h3⟩ := e2_some h
  refine so σ H μ ρ M _ _ _ h1 rσ rs fun w1 μ1 H1 e1 r1 s1 => ?_
  have hx : ∃ a b, x = .str a ∧ y = .str b := by
    cases x <;> cases y <;> simp only [vSIndex] at h3 <;> first | exact ⟨_, _, rfl, rfl⟩ | cases h3
  obtain ⟨a, b, rfl, rfl⟩ := hx
  cases r1
  refine ⟨⟨a, rfl⟩, se σ H1 μ1 ρ M1 _ _ _ h2 (rσ.ext e1) s1 fun w2 μ2 H2 e2 r2 s2 => ?_⟩
  cases r2
  simp only [vSIndex] at h3
  split at h3
  · cases h3
    exact ⟨a, b, _, _, rfl, rfl, by assumption, q _ μ2 H2 (e1.trans e2) (.int _) s2⟩
  · cases h3
end
end Sh

set_option Elab.async false
set_option linter.all false
set_option maxRecDepth 100000
set_option maxHeartbeats 2000000
namespace Sh
open PySem PySem.Spec PyProof.Rows L2 NdefX GenE
open GxR (TabB TabG Tabbed)
section
variable {F : Fam} {e a b c o tg : Expr} {f fa fb fc : Fe} {pos p apos : Pos} {es : List Expr} {g : Fa}
/-! ### xs.append(y); xs[i] = y -/
def vApp : Vl → Vl → Mem → Option (Vl × Mem)
  | .ref k, y, M => match M[k]? with
    | some (.lst xs) => if xs.length < lim then some (.non, M.set k (.lst (xs ++ [y]))) else none
    | _ => none
  | _, _, _ => none
theorem noSt_lst {ws : List V} : NoSt (.lst ws) := ⟨fun _ z => (by cases z), fun _ _ z => (by cases z), fun _ z => (by cases z)⟩
/-- the argument may not take the list away: said by the store behind it -/
def eApp (fa f : Fe) : Fe := fun ρ M => match fa ρ M with
  | some (.ref k, M1) => match seqAt M1 k with
    | some _ => match f ρ M1 with
      | some (y, M2) => vApp (.ref k) y M2
      | none => none
    | none => none
  | _ => none
theorem se_append (ho : SE F o fa) (he : SE F e f) (hs : ∀ env, starEach [e] env = (false, eval e env) :: starEach [] env := by intro _; rfl) (hbase : ∀ env, attributeBase o "append" env (eval o env) = eval o env := by intro _; rfl)
    (hfew : ∀ env, ((backTo pos (starEach [e] env)).all (fun x => !x.1) && (backToKw pos (keywordEach [] env)).all (fun x => x.1.isSome) && decide (([e] : List Expr).length + ([] : List Keyword).length + (if ([] : List Keyword).isEmpty then 0 else 1) < 30)) = true := by intro _; rfl)
    (hline : (apos.endLine == pos.line) = true := by rfl) : SE F (.Call (.Attribute o "append" apos) [e] [] pos) (eApp fa f) := by
  obtain ⟨to, po, so⟩ := ho
  obtain ⟨te, pe, se⟩ := he
  refine ⟨_, fun i => F.hK i ▸ pe_bm PySem.F.plainAttrs_list PySem.F.slot_list_append PySem.F.type_list_append mt_append (po i) (pa_cons (pe i) pa_nil (hs _)) (hbase _) (hfew _) hline (hs _) rfl, fun σ H μ ρ M v M' Q h rσ rs q => ?_⟩
  unfold eApp at h
  split at h
  · rename_i _ k M1 h1
    split at h
    · rename_i _ xs0 h0
      split at h
      · rename_i _ y M2 h2
        refine so σ H μ ρ M _ _ _ h1 rσ rs fun w1 μ1 H1 e1 r1 s1 => ?_
        cases r1
        rename_i a ha
        obtain ⟨o0, g1, g2⟩ := seqAt_some h0
        obtain ⟨ws0, sq0, _⟩ := s1.seq g1 g2 ha
        refine ⟨.inl ⟨rfl, ws0, sq0⟩, ?_⟩
        refine se σ H1 μ1 ρ M1 _ _ _ h2 (rσ.ext e1) s1 fun w2 μ2 H2 e2 r2 s2 => ?_
        simp only [vApp] at h
        split at h
        · split at h
          · cases h
            rename_i xs hk hl
            obtain ⟨ws, e3, r3⟩ := s2.lst hk (e2.at ha)
            refine ⟨a, ws, w2, rfl, rfl, e3, by rw [← r3.length]; exact Nat.lt_of_lt_of_le hl lim_line, ?_⟩
            obtain ⟨s4, e4⟩ := s2.write (u := .lst (ws ++ [w2])) (o' := .lst (xs ++ [y])) hk rfl (e2.at ha) noSt_lst rfl fun e => ⟨_, upd_same, (r3.append (.cons r2 .nil)).ext e⟩
            exact q _ μ2 _ ((e1.trans e2).trans e4) .non s4
          · cases h
        · cases h
      · cases h
    · cases h
  · cases h
/-- what a target does with a value; ks the slots that it may change -/
abbrev Fg := Vl → Env → Mem → Option (Env × Mem)
def Only (ks : List Nat) (σ σ' : L2.St) : Prop := σ'.length = σ.length ∧ ∀ j, j ∉ ks → σ'[j]? = σ[j]?
theorem Only.refl (ks : List Nat) (σ : L2.St) : Only ks σ σ := ⟨rfl, fun _ _ => rfl⟩
theorem Only.trans {ks : List Nat} {σ σ1 σ2 : L2.St} (a : Only ks σ σ1) (b : Only ks σ1 σ2) : Only ks σ σ2 := ⟨b.1.trans a.1, fun j h => (b.2 j h).trans (a.2 j h)⟩
theorem Only.mono {ks ks' : List Nat} {σ σ1 : L2.St} (a : Only ks σ σ1) (h : ∀ k ∈ ks, k ∈ ks') : Only ks' σ σ1 := ⟨a.1, fun j hj => a.2 j fun z => hj (h j z)⟩
theorem Only.wipe {vs : List Nat} {σ σ' : L2.St} (h : Only vs (wipe σ vs) σ') : wipe σ' vs = wipe σ vs := by
  have lw : ∀ (τ : L2.St) (ws : List Nat) (j : Nat), j ∈ ws → (L2.wipe τ ws)[j]? = if j < τ.length then some none else none := by
    intro τ ws
    induction ws with
    | nil => intro j hj; cases hj
    | cons v ws ih =>
      intro j hj
      unfold L2.wipe
      by_cases hv : v = j
      · subst hv
        rw [List.getElem?_set]
        simp [wipe_length]
      · rw [List.getElem?_set_ne hv]
        exact ih j (by rcases List.mem_cons.mp hj with z | z; exact absurd z.symm hv; exact z)
  apply List.ext_getElem?
  intro j
  have hl : σ'.length = σ.length := by rw [h.1, wipe_length]
  by_cases hj : j ∈ vs
  · rw [lw _ _ _ hj, lw _ _ _ hj, hl]
  · rw [wipe_out hj, h.2 j hj]
def SG (F : Fam) (tg : Expr) (f : Fg) (ks : List Nat) : Prop := ∃ t, (∀ i, PG (F.X i) tg t) ∧ ∀ (σ : L2.St) (H : Hp) (μ : List Addr) (ρ : Env) (M : Mem) (v : Vl) (w : V) (ρ' : Env) (M' : Mem) (Q : L2.St → Hp → Prop), f v ρ M = some (ρ', M') → Rv F.K μ H v w → Rσ F.K μ H ρ σ → RS F.K F.T μ H M →
  (∀ σ' μ' H', Ext μ H μ' H' → Rσ F.K μ' H' ρ' σ' → RS F.K F.T μ' H' M' → Only ks σ σ' → Q σ' H') → t w σ H Q
def gN (i : Nat) : Fg := fun v ρ M => some (ρ.set i (some v), M)
def LocF (F : Fam) (x : Str) : Prop := F.sc.names.lookup x = some .local ∨ (F.sc.names.lookup x = some .cell ∧ F.fn = true)
theorem LocF.loc {x : Str} (h : LocF F x) (i : F.ι) : Loc (F.X i).env.scope x := by
  rw [F.hsc i]
  exact h.elim .inl fun z => .inr z.1
theorem LocF.fn {x : Str} (h : LocF F x) (i : F.ι) : (F.X i).fn x = true ∨ (F.X i).env.scope.names.lookup x = some .local := by
  rw [F.hsc i]
  exact h.elim .inr fun z => .inl (F.hfn z.2 i x)
theorem only_set {i : Nat} {x : Option V} {σ : L2.St} : Only [i] σ (σ.set i x) := ⟨by simp, fun j hj => List.getElem?_set_ne fun z => hj (by simp [z])⟩
theorem sg_name {x : Str} (i : Nat) (hN : F.N.Nodup) (hi : F.N[i]? = some x := by rfl) (hx : LocF F x := by first | exact Or.inl rfl | exact Or.inr ⟨rfl, rfl⟩) : SG F (.Name x pos) (gN i) [i] := by
  refine ⟨gName i, fun j => pg_name (by rw [F.hN j]; exact hN) (by rw [F.hN j]; exact hi) (hx.loc j) (hx.fn j), fun σ H μ ρ M v w ρ' M' Q h rv rσ rs q => ?_⟩
  cases h
  exact q _ μ H (Ext.refl _ _) (rσ.set rv) rs only_set
/-- several names -/
abbrev Fgs := List Vl → Env → Mem → Option (Env × Mem)
def SGs (F : Fam) (tgs : List Expr) (f : Fgs) (ks : List Nat) : Prop := ∃ t, (∀ i, PGs (F.X i) tgs t) ∧ ∀ (σ : L2.St) (H : Hp) (μ : List Addr) (ρ : Env) (M : Mem) (vs : List Vl) (ws : List V) (ρ' : Env) (M' : Mem) (Q : L2.St → Hp → Prop), f vs ρ M = some (ρ', M') → RvA F.K μ H vs ws → Rσ F.K μ H ρ σ → RS F.K F.T μ H M →
  (∀ σ' μ' H', Ext μ H μ' H' → Rσ F.K μ' H' ρ' σ' → RS F.K F.T μ' H' M' → Only ks σ σ' → Q σ' H') → t ws σ H Q
def gsNil : Fgs := fun vs ρ M => match vs with
  | [] => some (ρ, M)
  | _ => none
def gsCons (f : Fg) (g : Fgs) : Fgs := fun vs ρ M => match vs with
  | v :: r => match f v ρ M with
    | some (ρ1, M1) => g r ρ1 M1
    | none => none
  | [] => none
theorem sgs_nil : SGs F [] gsNil [] := by
  refine ⟨gNil, fun _ => pgs_nil, fun σ H μ ρ M vs ws ρ' M' Q h rv rσ rs q => ?_⟩
  unfold gsNil at h
  split at h
  · cases h
    cases rv
    exact ⟨rfl, q _ μ H (Ext.refl _ _) rσ rs (Only.refl _ _)⟩
  · cases h
theorem sgs_cons {tgs : List Expr} {fg : Fg} {fgs : Fgs} {ks ks' : List Nat} (h1 : SG F tg fg ks) (h2 : SGs F tgs fgs ks') (hs : ∀ env, (assignEach (tg :: tgs) env).map (·.2) = assign tg env :: (assignEach tgs env).map (·.2) := by intro _; rfl) : SGs F (tg :: tgs) (gsCons fg fgs) (ks ++ ks') := by
  obtain ⟨t, p, s⟩ := h1
  obtain ⟨t', p', s'⟩ := h2
  refine ⟨gCons t t', fun i => pgs_cons (p i) (p' i) (hs _), fun σ H μ ρ M vs ws ρ' M' Q h rv rσ rs q => ?_⟩
  unfold gsCons at h
  split at h
  · split at h
    · cases rv with
      | cons r rr =>
        refine ⟨_, _, rfl, s σ H μ ρ M _ _ _ _ _ (by assumption) r rσ rs fun σ1 μ1 H1 e1 r1 s1 o1 => ?_⟩
        exact s' σ1 H1 μ1 _ _ _ _ ρ' M' _ h (rr.ext e1) r1 s1 fun σ2 μ2 H2 e2 r2 s2 o2 => q σ2 μ2 H2 (e1.trans e2) r2 s2 ((o1.mono (by simp; exact fun k hk => .inl hk)).trans (o2.mono (by simp; exact fun k hk => .inr hk)))
    · cases h
  · cases h
def gT (n : Nat) (g : Fgs) : Fg := fun v ρ M => match v with
  | .tup _ xs => if xs.length = n then g xs ρ M else none
  | _ => none
theorem sg_tup {tgs : List Expr} {fgs : Fgs} {n kk : Nat} {ks : List Nat} (h : SGs F tgs fgs ks) (hn : ∀ env, (assignEach tgs env).length = n := by intro _; rfl) (hst : ∀ env, (assignEach tgs env).findIdx? (·.1) = none := by intro _; rfl) : SG F (.Tuple tgs kk pos) (gT n fgs) ks := by
  obtain ⟨t, p, s⟩ := h
  refine ⟨gTup F.K n t, fun i => F.hK i ▸ pg_tup (F.hcalm i) (p i) (hn _) (hst _), fun σ H μ ρ M v w ρ' M' Q h rv rσ rs q => ?_⟩
  unfold gT at h
  split at h
  · split at h
    · cases rv with
      | tup sq r _ =>
        exact ⟨_, _, rfl, sq, by rw [← r.length]; assumption, s σ H μ ρ M _ _ ρ' M' Q h r rσ rs q⟩
    · cases h
  · cases h
/-- o[i] = v of a list -/
def gSb (fa fb : Fe) : Fg := fun v ρ M => match fa ρ M with
  | some (.ref k, M1) => match fb ρ M1 with
    | some (.int i, M2) => match M2[k]? with
      | some (.lst xs) => match ixN xs.length i with
        | some j => some (ρ, M2.set k (.lst (xs.set j v)))
        | none => none
      | _ => none
    | _ => none
  | _ => none
theorem sg_sub (ha : SE F a fa) (hb : SE F b fb) (hs : ∀ env v, assign (.Subscript a b pos) env v = (do
      let ov ← holding [v] (eval a env)
      let iv ← holding [v, ov] (eval b env)
      standAt pos
      holding [v, ov, iv] (setItem ov iv v)
      release [v, ov, iv] []) := by intro _ _; rfl) : SG F (.Subscript a b pos) (gSb fa fb) [] := by
  obtain ⟨ta, pa, sa⟩ := ha
  obtain ⟨tb, pb, sb⟩ := hb
  refine ⟨_, fun i => pg_sub (pa i) (pb i) set_list (hs _), fun σ H μ ρ M v w ρ' M' Q h rv rσ rs q => ?_⟩
  unfold gSb at h
  split at h
  · split at h
    · split at h
      · split at h
        · cases h
          rename_i _ k M1 h1 _ i M2 h2 _ xs h3 _ j h4
          refine sa σ H μ ρ M _ _ _ h1 rσ rs fun w1 μ1 H1 e1 r1 s1 => ?_
          refine sb σ H1 μ1 ρ M1 _ _ _ h2 (rσ.ext e1) s1 fun w2 μ2 H2 e2 r2 s2 => ?_
          cases r1 with
          | ref ha =>
            cases r2
            obtain ⟨ws, e3, r3⟩ := s2.lst h3 (e2.at ha)
            refine ⟨_, ws, i, j, rfl, rfl, e3, by rw [← r3.length]; exact h4, ?_⟩
            obtain ⟨s4, e4⟩ := s2.write (u := .lst (ws.set j w)) (o' := .lst (xs.set j v)) h3 rfl (e2.at ha) noSt_lst rfl fun e => ⟨_, upd_same, (RvA.set (rv.ext (e1.trans e2)) j r3).ext e⟩
            exact q σ μ2 _ ((e1.trans e2).trans e4) (rσ.ext ((e1.trans e2).trans e4)) s4 (Only.refl _ _)
        · cases h
      · cases h
    · cases h
  · cases h
def sAsg (f : Fe) (g : Fg) : Fs := fun ρ M => match f ρ M with
  | some (v, M1) => match g v ρ M1 with
    | some (ρ', M2) => some (.nx, ρ', M2)
    | none => none
  | none => none
theorem semAsg {te : TE} {t : TG} {fg : Fg} {ks : List Nat} (he : SemE F.K F.T te f) (hg : ∀ (σ : L2.St) (H : Hp) (μ : List Addr) (ρ : Env) (M : Mem) (v : Vl) (w : V) (ρ' : Env) (M' : Mem) (Q : L2.St → Hp → Prop), fg v ρ M = some (ρ', M') → Rv F.K μ H v w → Rσ F.K μ H ρ σ → RS F.K F.T μ H M →
  (∀ σ' μ' H', Ext μ H μ' H' → Rσ F.K μ' H' ρ' σ' → RS F.K F.T μ' H' M' → Only ks σ σ' → Q σ' H') → t w σ H Q) : SemS F.K F.T (tAsg te t) (sAsg f fg) := by
  intro σ H μ ρ M o ρ' M' D h rσ rs q
  unfold sAsg at h
  split at h
  · split at h
    · cases h
      refine he σ H μ ρ M _ _ _ (by assumption) rσ rs fun w1 μ1 H1 e1 r1 s1 => ?_
      exact hg σ H1 μ1 ρ _ _ w1 _ _ _ (by assumption) r1 (rσ.ext e1) s1 fun σ2 μ2 H2 e2 r2 s2 _ => q σ2 μ2 H2 (e1.trans e2) r2 s2
    · cases h
  · cases h
theorem ss_asg {fg : Fg} {ks : List Nat} (he : SE F e f) (hg : SG F tg fg ks) (hs : ∀ env, swapsWithSole [tg] e pos.line env = pure false := by intro _; rfl) (hw : ∀ env, swappedStores [tg] e env = pure none := by intro _; rfl)
    (h1 : ∀ env, (assignEach [tg] env).map (·.2) = [assign tg env] := by intro _; rfl) : SS F (.Assign [tg] e pos) (sAsg f fg) := by
  obtain ⟨te, pe, se⟩ := he
  obtain ⟨t, p, s⟩ := hg
  exact ⟨_, fun i => ps_asg (pe i) (p i) (hs _) (hw _) (h1 _), semAsg se s⟩
theorem ss_set {x : Str} (i : Nat) (hN : F.N.Nodup) (he : SE F e f) (hi : F.N[i]? = some x := by rfl) (hx : LocF F x := by first | exact Or.inl rfl | exact Or.inr ⟨rfl, rfl⟩) (hs : ∀ env, swapsWith e (some (.Name x p)) pos.line env = pure false := by intro _; rfl) :
    SS F (.Assign [.Name x p] e pos) (sAsg f (gN i)) := by
  obtain ⟨te, pe, se⟩ := he
  obtain ⟨t, pp, s⟩ := sg_name (pos := p) i hN hi hx
  refine ⟨_, fun j => ps_set (by rw [F.hN j]; exact hN) (by rw [F.hN j]; exact hi) (hx.loc j) (pe j) (hs _) (hx.fn j), semAsg (ks := [i]) se fun σ H μ ρ M v w ρ' M' Q h rv rσ rs q => ?_⟩
  cases h
  exact q _ μ H (Ext.refl _ _) (rσ.set rv) rs only_set
end
end Sh

set_option Elab.async false
set_option linter.all false
set_option maxRecDepth 100000
set_option maxHeartbeats 2000000
namespace Sh
open PySem PySem.Spec PyProof.Rows L2 NdefX GenE
open GxR (TabB TabG Tabbed)
/-- what is walked: its items, as they stand -/
abbrev Src := Mem → Option (List Vl)
abbrev Fi := Env → Mem → Option (Src × Nat × Mem)
def ItOk (K : PySem.W.Frag) (T : List Addr) (J : It) (src : Src) (μ0 : List Addr) (H0 : Hp) : Prop := ∀ (i : Nat) (μ : List Addr) (H : Hp) (M : Mem) (xs : List Vl), Ext μ0 H0 μ H → RS K T μ H M → src M = some xs →
  (xs[i]? = none → J.stop i H) ∧ ∀ x, xs[i]? = some x → J.go i H ∧ ∀ w H', J.yld i H w H' → Ext μ H μ H' ∧ Rv K μ H' x w ∧ RS K T μ H' M
def SI (F : Fam) (tg iter : Expr) (f : Fi) : Prop := ∃ wi, (∀ i, PI (F.X i) tg iter wi) ∧ ∀ (σ : L2.St) (H : Hp) (μ : List Addr) (ρ : Env) (M : Mem) (src : Src) (n : Nat) (M' : Mem) (R : It → Hp → Prop), f ρ M = some (src, n, M') → Rσ F.K μ H ρ σ → RS F.K F.T μ H M →
  (∀ J μ' H', Ext μ H μ' H' → RS F.K F.T μ' H' M' → ItOk F.K F.T J src μ' H' → R J H') → wi σ H R
def signs (z : Str) : List Vl := z.cps.toList.map fun c => .str ⟨#[c]⟩
def iSeq (f : Fe) : Fi := fun ρ M => match f ρ M with
  | some (.tup _ xs, M1) => some (fun _ => some xs, xs.length, M1)
  | some (.str z, M1) => some (fun _ => some (signs z), z.length, M1)
  | some (.ref k, M1) => match seqAt M1 k with
    | some xs => some (fun M => seqAt M k, xs.length, M1)
    | none => none
  | _ => none
theorem PI.or {X : Cx} {tg iter : Expr} {w1 w2 : TI} (h1 : PI X tg iter w1) (h2 : PI X tg iter w2) : PI X tg iter (fun σ H R => w1 σ H R ∨ w2 σ H R) :=
  ⟨fun pins s σ H R I h => h.elim (fun z => h1.run pins s σ H R I z) fun z => h2.run pins s σ H R I z⟩
section
variable {F : Fam} {e a b c o tg iter : Expr} {f fa fb fc : Fe} {pos p apos : Pos} {es : List Expr} {g : Fa}
theorem get_none {α β : Type} {xs : List α} {ws : List β} (h : xs.length = ws.length) {i : Nat} (e : xs[i]? = none) : ws.length ≤ i := by
  rw [← h]
  exact List.getElem?_eq_none_iff.mp e
theorem si_seq (h : SE F iter f) : SI F tg iter (iSeq f) := by
  obtain ⟨te, pe, se⟩ := h
  refine ⟨_, fun i => PI.or (F.hK i ▸ pi_tup (X := F.X i) (pe i)) (PI.or (F.hK i ▸ pi_list (X := F.X i) (pe i)) (pi_str (pe i))), fun σ H μ ρ M src n M' R h rσ rs q => ?_⟩
  unfold iSeq at h
  split at h
  · cases h
    refine .inl (se σ H μ ρ M _ _ _ (by assumption) rσ rs fun w1 μ1 H1 e1 r1 s1 => ?_)
    cases r1 with
    | @tup a _ xs ws sq r _ =>
      refine ⟨a, rfl, ⟨ws, sq⟩, q _ μ1 H1 e1 s1 fun i μ2 H2 M2 ys e2 s2 hy => ?_⟩
      cases hy
      have sq2 := e2.sqT sq
      refine ⟨fun hn => ⟨ws, sq2, get_none r.length hn⟩, fun x hx => ?_⟩
      obtain ⟨w, hw, rv⟩ := (r.ext e2).get hx
      refine ⟨⟨ws, w, sq2, hw⟩, fun w' H' hy => ?_⟩
      obtain ⟨rfl, hy⟩ := hy
      have := hy ws sq2
      rw [hw] at this
      cases this
      exact ⟨Ext.refl _ _, rv, s2⟩
  · cases h
    refine .inr (.inr (se σ H μ ρ M _ _ _ (by assumption) rσ rs fun w1 μ1 H1 e1 r1 s1 => ?_))
    cases r1
    rename_i z hf
    refine ⟨z, rfl, q _ μ1 H1 e1 s1 fun i μ2 H2 M2 ys e2 s2 hy => ?_⟩
    cases hy
    have hlen : (signs z).length = z.cps.size := by unfold signs; simp
    refine ⟨fun hn => ?_, fun x hx => ?_⟩
    · have := List.getElem?_eq_none_iff.mp hn
      show z.cps.size ≤ i
      omega
    · have hi : i < z.cps.size := by
        have := (List.getElem?_eq_some_iff.mp hx).1
        omega
      refine ⟨hi, fun w' H' hy => ?_⟩
      obtain ⟨rfl, cc, hc, rfl⟩ := hy
      refine ⟨Ext.refl _ _, ?_, s2⟩
      unfold signs at hx
      rw [List.getElem?_map, Array.getElem?_toList, hc] at hx
      cases hx
      exact .str _
  · split at h
    · cases h
      refine .inr (.inl (se σ H μ ρ M _ _ _ (by assumption) rσ rs fun w1 μ1 H1 e1 r1 s1 => ?_))
      cases r1 with
      | ref ha =>
        rename_i k xs hs a hf
        obtain ⟨o0, g1, g2⟩ := seqAt_some (by assumption)
        obtain ⟨ws0, sq0, _⟩ := s1.seq g1 g2 ha
        refine ⟨_, rfl, ⟨ws0, sq0⟩, q _ μ1 H1 e1 s1 fun i μ2 H2 M2 ys e2 s2 hy => ?_⟩
        obtain ⟨o1, g3, g4⟩ := seqAt_some hy
        obtain ⟨ws, sq, r⟩ := s2.seq g3 g4 (e2.at ha)
        refine ⟨fun hn => ⟨ws, sq, get_none r.length hn⟩, fun x hx => ?_⟩
        obtain ⟨w, hw, rv⟩ := r.get hx
        refine ⟨⟨ws, w, sq, hw⟩, fun w' H' hy => ?_⟩
        obtain ⟨rfl, hy⟩ := hy
        have := hy ws sq
        rw [hw] at this
        cases this
        exact ⟨Ext.refl _ _, rv, s2⟩
    · cases h
  · cases h
def rng (lo : Int) (n : Nat) : List Vl := (List.range n).map fun (k : Nat) => .int (lo + k)
theorem it_range {K : PySem.W.Frag} {T : List Addr} {lo : Int} {n : Nat} {μ : List Addr} {H : Hp} : ItOk K T (Itr lo n) (fun _ => some (rng lo n)) μ H := by
  intro i μ2 H2 M2 ys e2 s2 hy
  cases hy
  have hlen : (rng lo n).length = n := by unfold rng; simp
  refine ⟨fun hn => ?_, fun x hx => ?_⟩
  · have := List.getElem?_eq_none_iff.mp hn
    show n ≤ i
    omega
  · have hi : i < n := by
      have := (List.getElem?_eq_some_iff.mp hx).1
      omega
    refine ⟨hi, fun w' H' hy => ?_⟩
    obtain ⟨rfl, rfl⟩ := hy
    refine ⟨Ext.refl _ _, ?_, s2⟩
    unfold rng at hx
    rw [List.getElem?_map, List.getElem?_range hi] at hx
    cases hx
    exact .int _
def iRange1 (f : Fe) : Fi := fun ρ M => match f ρ M with
  | some (.int j, M1) => if -(2 ^ 62) ≤ j ∧ j < 2 ^ 62 then some (fun _ => some (rng 0 j.toNat), j.toNat, M1) else none
  | _ => none
def iRange2 (fa fb : Fe) : Fi := fun ρ M => match fa ρ M with
  | some (.int i, M1) => match fb ρ M1 with
    | some (.int j, M2) => if -(2 ^ 62) ≤ i ∧ i < 2 ^ 62 ∧ -(2 ^ 62) ≤ j ∧ j < 2 ^ 62 then some (fun _ => some (rng i (j - i).toNat), (j - i).toNat, M2) else none
    | _ => none
  | _ => none
theorem si_range1 (hg : Glb F "range") (hm : F.mg "range" = none) (h : SE F a f) (hs : ∀ env, starEach [a] env = [(false, eval a env)] := by intro _; rfl) : SI F tg (.Call (.Name "range" p) [a] [] pos) (iRange1 f) := by
  obtain ⟨te, pe, se⟩ := h
  refine ⟨_, fun i => pi_range1 (hg.gl i) (by rw [F.hmg i]; exact hm) (pa_cons (pe i) pa_nil (hs _)) (hs _), fun σ H μ ρ M src n M' R h rσ rs q => ?_⟩
  unfold iRange1 at h
  split at h
  · split at h
    · rename_i hc
      cases h
      refine se σ H μ ρ M _ _ _ (by assumption) rσ rs fun w1 μ1 H1 e1 r1 s1 => ?_
      cases r1
      exact ⟨_, rfl, hc.1, hc.2, q _ μ1 H1 e1 s1 it_range⟩
    · cases h
  · cases h
theorem si_range2 (hg : Glb F "range") (hm : F.mg "range" = none) (ha : SE F a fa) (hb : SE F b fb) (hs : ∀ env, starEach [a, b] env = [(false, eval a env), (false, eval b env)] := by intro _; rfl) (hs2 : ∀ env, starEach [b] env = [(false, eval b env)] := by intro _; rfl) : SI F tg (.Call (.Name "range" p) [a, b] [] pos) (iRange2 fa fb) := by
  obtain ⟨ta, pa, sa⟩ := ha
  obtain ⟨tb, pb, sb⟩ := hb
  refine ⟨_, fun i => pi_range2 (hg.gl i) (by rw [F.hmg i]; exact hm) (pa_cons (pa i) (pa_cons (pb i) pa_nil (hs2 _)) (by rw [hs, hs2])) (hs _) (hs2 _), fun σ H μ ρ M src n M' R h rσ rs q => ?_⟩
  unfold iRange2 at h
  split at h
  · split at h
    · split at h
      · rename_i hc
        cases h
        refine sa σ H μ ρ M _ _ _ (by assumption) rσ rs fun w1 μ1 H1 e1 r1 s1 => ?_
        refine sb σ H1 μ1 ρ _ _ _ _ (by assumption) (rσ.ext e1) s1 fun w2 μ2 H2 e2 r2 s2 => ?_
        cases r1
        cases r2
        exact ⟨_, _, rfl, ⟨hc.1, hc.2.1, hc.2.2.1, hc.2.2.2⟩, q _ μ2 H2 (e1.trans e2) s2 it_range⟩
      · cases h
    · cases h
  · cases h
/-! ### for -/
def forL (src : Src) (g : Fg) (body : Fs) : Nat → Nat → Env → Mem → Option (Out × Env × Mem)
  | 0, i, ρ, M => match src M with
    | some xs => match xs[i]? with
      | none => some (.nx, ρ, M)
      | some _ => none
    | none => none
  | n + 1, i, ρ, M => match src M with
    | some xs => match xs[i]? with
      | none => some (.nx, ρ, M)
      | some x => match g x ρ M with
        | some (ρ1, M1) => match body ρ1 M1 with
          | some (.nx, ρ2, M2) => forL src g body n (i + 1) ρ2 M2
          | some (.ct, ρ2, M2) => forL src g body n (i + 1) ρ2 M2
          | some (.bk, ρ2, M2) => some (.nx, ρ2, M2)
          | some (.rt v, ρ2, M2) => some (.rt v, ρ2, M2)
          | none => none
        | none => none
    | none => none
def sFor (fi : Fi) (g : Fg) (body : Fs) : Fs := fun ρ M => match fi ρ M with
  | some (src, n, M1) => forL src g body n 0 ρ M1
  | none => none
theorem ss_for {fi : Fi} {fg : Fg} {ks : List Nat} {body : List Stmt} {s : Fs} (hi : SI F tg iter fi) (hg : SG F tg fg ks) (hb : SSs F body s) (hs : ∀ env x, foldedSetIterable iter env x = pure x := by intro _ _; rfl) :
    SS F (.For tg iter body [] pos) (sFor fi fg s) := by
  obtain ⟨wi, pi, si⟩ := hi
  obtain ⟨tg', pg, sg⟩ := hg
  obtain ⟨tb, pb, sb⟩ := hb
  refine ⟨_, fun i => ps_for (F.hp i) (F.hcalm i) (pi i) (pg i) (pb i) (hs _), fun σ H μ ρ M o ρ' M' D h rσ rs q => ?_⟩
  unfold sFor at h
  split at h
  · rename_i _ src n M1 h1
    refine si σ H μ ρ M _ _ _ _ h1 rσ rs fun J μ1 H1 e1 s1 it => ?_
    refine ⟨fun i m σ' H' => ∃ μ' ρ1 M2, Ext μ1 H1 μ' H' ∧ Rσ F.K μ' H' ρ1 σ' ∧ RS F.K F.T μ' H' M2 ∧ forL src fg s m i ρ1 M2 = some (o, ρ', M'), ⟨n, μ1, ρ, M1, Ext.refl _ _, rσ.ext e1, s1, h⟩, ?_⟩
    rintro i m σ2 H2 ⟨μ2, ρ2, M2, e2, r2, s2, h2⟩
    have stop : ∀ (xs : List Vl), src M2 = some xs → xs[i]? = none → some (Out.nx, ρ2, M2) = some (o, ρ', M') → J.stop i H2 ∧ D.nx σ2 H2 := fun xs hx hn he => by
      cases he
      exact ⟨(it i μ2 H2 _ xs e2 s2 hx).1 hn, q σ2 μ2 H2 (e1.trans e2) r2 s2⟩
    cases m with
    | zero =>
      unfold forL at h2
      split at h2
      · split at h2
        · exact .inl (stop _ (by assumption) (by assumption) h2)
        · cases h2
      · cases h2
    | succ m =>
      unfold forL at h2
      split at h2
      · rename_i _ xs hx
        split at h2
        · exact .inl (stop _ (by assumption) (by assumption) h2)
        · rename_i _ x hxi
          obtain ⟨go, yl⟩ := (it i μ2 H2 M2 xs e2 s2 hx).2 x hxi
          refine .inr ⟨go, fun σ' H' => ∃ μ' ρ1 M3, Ext μ1 H1 μ' H' ∧ Rσ F.K μ' H' ρ1 σ' ∧ RS F.K F.T μ' H' M3 ∧ forL src fg s m (i + 1) ρ1 M3 = some (o, ρ', M'), fun σ' H' hN => ⟨m, Nat.lt_succ_self _, hN⟩, fun w H3 hy => ?_⟩
          obtain ⟨e3, r3, s3⟩ := yl w H3 hy
          split at h2
          · refine sg σ2 H3 μ2 ρ2 M2 x w _ _ _ (by assumption) r3 (r2.ext e3) s3 fun σ4 μ4 H4 e4 r4 s4 _ => ?_
            have e14 := (e2.trans e3).trans e4
            split at h2
            · refine sb σ4 H4 μ4 _ _ .nx _ _ _ (by assumption) r4 s4 fun σ5 μ5 H5 e5 r5 s5 => ⟨μ5, _, _, e14.trans e5, r5, s5, h2⟩
            · refine sb σ4 H4 μ4 _ _ .ct _ _ _ (by assumption) r4 s4 fun σ5 μ5 H5 e5 r5 s5 => ⟨μ5, _, _, e14.trans e5, r5, s5, h2⟩
            · cases h2
              refine sb σ4 H4 μ4 _ _ .bk _ _ _ (by assumption) r4 s4 fun σ5 μ5 H5 e5 r5 s5 => q σ5 μ5 H5 ((e1.trans e14).trans e5) r5 s5
            · cases h2
              refine sb σ4 H4 μ4 _ _ (.rt _) _ _ _ (by assumption) r4 s4 fun w5 μ5 H5 e5 r5 s5 => q w5 μ5 H5 ((e1.trans e14).trans e5) r5 s5
            · cases h2
          · cases h2
      · cases h2
  · cases h
end
end Sh

set_option Elab.async false
set_option linter.all false
set_option maxRecDepth 100000
set_option maxHeartbeats 2000000
namespace Sh
open PySem PySem.Spec PyProof.Rows L2 NdefX GenE
open GxR (TabB TabG Tabbed)
/-! ### list comprehensions -/
def Fam.blk (F : Fam) (scope : Scope) : Fam where
  ι := F.ι × Shared × Hp × Addr × List (Str × Addr) × List Addr
  X := fun i => (F.X i.1).blk i.2.1 i.2.2.1 scope (compEnvC scope i.2.2.2.2.1 i.2.2.2.1 (F.X i.1).env) i.2.2.2.2.2
  K := F.K
  mg := F.mg
  base := F.base
  prog := F.prog
  w := F.w
  N := F.N
  sc := relS scope F.sc
  lv := F.lv
  T := F.T
  code := F.code
  hK := fun i => F.hK i.1
  hmg := fun i => F.hmg i.1
  hbase := fun i => F.hbase i.1
  hprog := fun i => F.hprog i.1
  hw := fun i => F.hw i.1
  hN := fun i => F.hN i.1
  hsc := fun i => by
    show relS scope (F.X i.1).env.scope = _
    rw [F.hsc i.1]
  hr := fun i => F.hr i.1
  hcalm := fun i => F.hcalm i.1
  hcode := fun c h i => F.hcode c h i.1
  fn := false
  hfn := fun h => nomatch h
  hp := fun _ => PassesOwn.never
def wipeE (ρ : Env) : List Nat → Env
  | [] => ρ
  | v :: vs => (wipeE ρ vs).set v none
def STs (F : Fam) (ifs : List Expr) (f : Ft) : Prop := ∃ tt, (∀ i, PTs (F.X i) ifs tt) ∧ SemT F.K F.T tt f
def tYs : Ft := fun _ M => some (true, M)
section
variable {F : Fam} {e a b c o tg iter elt : Expr} {f fa fb fc fe : Fe} {pos p apos : Pos} {es ifs : List Expr} {scope : Scope} {own : List (Str × Nat)}
theorem sts_nil : STs F [] tYs := ⟨tYes, fun _ => pts_nil, fun σ H μ ρ M b M' Q h rσ rs q => by cases h; exact q μ H (Ext.refl _ _) rs⟩
theorem sts_one {t : Ft} (h : ST F c t) : STs F [c] t := by
  obtain ⟨tt, p, s⟩ := h
  exact ⟨tt, fun i => pts_one (p i), s⟩
theorem Rσ.wipe {K : PySem.W.Frag} {μ : List Addr} {H : Hp} {ρ : Env} {σ : L2.St} (r : Rσ K μ H ρ σ) : ∀ vs : List Nat, Rσ K μ H (wipeE ρ vs) (wipe σ vs)
  | [] => r
  | v :: vs => by
    have ih := Rσ.wipe r vs
    unfold wipeE L2.wipe
    refine ⟨by simp [ih.len], fun j x e => ?_⟩
    by_cases hj : v = j
    · subst hj
      rw [List.getElem?_set] at e
      simp at e
    · rw [List.getElem?_set_ne hj] at e
      rw [List.getElem?_set_ne hj]
      exact ih.at_ j x e
/-- the turns: k the new list's place, ρ the slots at each turn's start -/
def lcL (src : Src) (g : Fg) (t : Ft) (fe : Fe) (k : Nat) (ρ : Env) : Nat → Nat → Mem → Option Mem
  | 0, i, M => match src M with
    | some xs => match xs[i]? with
      | none => some M
      | some _ => none
    | none => none
  | n + 1, i, M => match src M with
    | some xs => match xs[i]? with
      | none => some M
      | some x => match g x ρ M with
        | some (ρ1, M1) => match t ρ1 M1 with
          | some (true, M2) => match fe ρ1 M2 with
            | some (y, M3) => match M3[k]? with
              | some (.lst acc) => if acc.length < lim then lcL src g t fe k ρ n (i + 1) (M3.set k (.lst (acc ++ [y]))) else none
              | _ => none
            | none => none
          | some (false, M2) => lcL src g t fe k ρ n (i + 1) M2
          | none => none
        | none => none
    | none => none
def eLc (vs : List Nat) (fi : Fi) (g : Fg) (t : Ft) (fe : Fe) : Fe := fun ρ M => match fi ρ M with
  | some (src, n, M1) => match lcL src g t fe M1.length (wipeE ρ vs) n 0 (M1 ++ [.lst []]) with
    | some M2 => some (.ref M1.length, M2)
    | none => none
  | none => none
theorem semLc {fi : Fi} {fg : Fg} {t : Ft} {wi : TI} {g' : TG} {tt : TT} {te : TE} {vs : List Nat}
    (si : ∀ (σ : L2.St) (H : Hp) (μ : List Addr) (ρ : Env) (M : Mem) (src : Src) (n : Nat) (M' : Mem) (R : It → Hp → Prop), fi ρ M = some (src, n, M') → Rσ F.K μ H ρ σ → RS F.K F.T μ H M → (∀ J μ' H', Ext μ H μ' H' → RS F.K F.T μ' H' M' → ItOk F.K F.T J src μ' H' → R J H') → wi σ H R)
    (sg : ∀ (σ : L2.St) (H : Hp) (μ : List Addr) (ρ : Env) (M : Mem) (v : Vl) (w : V) (ρ' : Env) (M' : Mem) (Q : L2.St → Hp → Prop), fg v ρ M = some (ρ', M') → Rv F.K μ H v w → Rσ F.K μ H ρ σ → RS F.K F.T μ H M → (∀ σ' μ' H', Ext μ H μ' H' → Rσ F.K μ' H' ρ' σ' → RS F.K F.T μ' H' M' → Only vs σ σ' → Q σ' H') → g' w σ H Q)
    (st : SemT F.K F.T tt t) (se : SemE F.K F.T te fe) : SemE F.K F.T (tLc wi g' tt te vs) (eLc vs fi fg t fe) := by
  intro σ H μ ρ M v M' Q h rσ rs q
  unfold eLc at h
  split at h
  · rename_i _ src n M1 h1
    split at h
    · rename_i _ M2 h2
      cases h
      refine si σ H μ ρ M _ _ _ _ h1 rσ rs fun J μ1 H1 e1 s1 it => ?_
      intro D nD
      obtain ⟨s2, e2, r2⟩ := s1.alloc (u := .lst []) (o := .lst []) nD fun e => ⟨[], upd_same, .nil⟩
      have e12 := e1.trans e2
      have hk : (μ1 ++ [D])[M1.length]? = some D := by cases r2 with | ref h => exact h
      refine ⟨fun i m H' => ∃ μ' M3, Ext (μ1 ++ [D]) (upd H1 D (.lst [])) μ' H' ∧ RS F.K F.T μ' H' M3 ∧ lcL src fg t fe M1.length (wipeE ρ vs) m i M3 = some M', ⟨n, _, _, Ext.refl _ _, s2, h2⟩, ?_⟩
      rintro i m H3 ⟨μ3, M3, e3, s3, h3⟩
      have eI : Ext μ1 H1 μ3 H3 := e2.trans e3
      have rσ3 : Rσ F.K μ3 H3 (wipeE ρ vs) (wipe σ vs) := (rσ.ext (e12.trans e3)).wipe vs
      have stop : ∀ (xs : List Vl), src M3 = some xs → xs[i]? = none → some M3 = some M' → J.stop i H3 ∧ Q (.ref D) H3 := fun xs hx hn he => by
        cases he
        exact ⟨(it i μ3 H3 _ xs eI s3 hx).1 hn, q _ μ3 H3 (e12.trans e3) (.ref (e3.at hk)) s3⟩
      cases m with
      | zero =>
        unfold lcL at h3
        split at h3
        · split at h3
          · exact .inl (stop _ (by assumption) (by assumption) h3)
          · cases h3
        · cases h3
      | succ m =>
        unfold lcL at h3
        split at h3
        · rename_i _ xs hx
          split at h3
          · exact .inl (stop _ (by assumption) (by assumption) h3)
          · rename_i _ x hxi
            obtain ⟨go, yl⟩ := (it i μ3 H3 M3 xs eI s3 hx).2 x hxi
            refine .inr ⟨go, fun H' => ∃ μ' M4, Ext (μ1 ++ [D]) (upd H1 D (.lst [])) μ' H' ∧ RS F.K F.T μ' H' M4 ∧ lcL src fg t fe M1.length (wipeE ρ vs) m (i + 1) M4 = some M', fun H' hN => ⟨m, Nat.lt_succ_self _, hN⟩, fun w H4 hy => ?_⟩
            obtain ⟨e4, r4, s4⟩ := yl w H4 hy
            split at h3
            · refine sg (wipe σ vs) H4 μ3 _ M3 x w _ _ _ (by assumption) r4 (rσ3.ext e4) s4 fun σ5 μ5 H5 e5 r5 s5 o5 => ⟨o5.wipe, ?_⟩
              have e35 := (e3.trans e4).trans e5
              split at h3
              · refine st σ5 H5 μ5 _ _ _ _ _ (by assumption) r5 s5 fun μ6 H6 e6 s6 => ?_
                show (if true = true then _ else _)
                rw [if_pos rfl]
                split at h3
                · refine se σ5 H6 μ6 _ _ _ _ _ (by assumption) (r5.ext e6) s6 fun w7 μ7 H7 e7 r7 s7 => ?_
                  have e37 := (e35.trans e6).trans e7
                  split at h3
                  · split at h3
                    · rename_i acc hacc hl
                      obtain ⟨ws, e8, r8⟩ := s7.lst hacc (e37.at hk)
                      refine ⟨ws, e8, by rw [← r8.length]; exact Nat.lt_of_lt_of_le hl lim_line, ?_⟩
                      obtain ⟨s9, e9⟩ := s7.write (u := .lst (ws ++ [w7])) (o' := .lst (acc ++ [_])) hacc rfl (e37.at hk) noSt_lst rfl fun e => ⟨_, upd_same, (r8.append (.cons r7 .nil)).ext e⟩
                      exact ⟨μ7, _, e37.trans e9, s9, h3⟩
                    · cases h3
                  · cases h3
                · cases h3
              · refine st σ5 H5 μ5 _ _ _ _ _ (by assumption) r5 s5 fun μ6 H6 e6 s6 => ?_
                show (if false = true then _ else _)
                rw [if_neg (by simp)]
                exact ⟨μ6, _, e35.trans e6, s6, h3⟩
              · cases h3
            · cases h3
        · cases h3
    · cases h
  · cases h
theorem se_lc {fi : Fi} {fg : Fg} {t : Ft} {N0 : List Str} {sc0 : Scope} (hN : F.N.Nodup) (hN0 : F.N = N0) (hsc0 : F.sc = sc0) (hi : SI F tg iter fi) (ok : blkC N0 sc0 scope own = true) (hg : SG (F.blk scope) tg fg (own.map (·.2))) (ht : STs (F.blk scope) ifs t) (he : SE (F.blk scope) elt fe) (hs : ∀ env x, foldedSetIterable iter env x = pure x := by intro _ _; rfl) :
    SE F (.ListComp elt [⟨tg, iter, ifs, 0⟩] scope pos) (eLc (own.map (·.2)) fi fg t fe) := by
  obtain ⟨wi, pi, si⟩ := hi
  obtain ⟨g', pg, sg⟩ := hg
  obtain ⟨tt, pt, st⟩ := ht
  obtain ⟨te, pe, se⟩ := he
  exact ⟨_, fun i => pe_lc (F.hcalm i) (by rw [F.hN i]; exact hN) (pi i) (by rw [F.hN i, F.hsc i, hN0, hsc0]; exact blkOk_by ok) (fun s H C cl fp => pg (i, s, H, C, cl, fp)) (fun s H C cl fp => pt (i, s, H, C, cl, fp)) (fun s H C cl fp => pe (i, s, H, C, cl, fp)) (hs _), semLc si sg st se⟩
theorem ss_setLc {y : Str} {i : Nat} {spos : Pos} {fi : Fi} {fg : Fg} {t : Ft} {N0 : List Str} {sc0 : Scope} (hN : F.N.Nodup) (hy : F.N[i]? = some y) (hyl : F.sc.names.lookup y = some .local) (hl : (p.line == pos.line) = true) (hany : (scope.names.any fun (n, k) => n == y && (k == .local || k == .cell)) = false) (hk : F.sc.kind = .function) (hN0 : F.N = N0) (hsc0 : F.sc = sc0)
    (hi : SI F tg iter fi) (ok : blkC N0 sc0 scope own = true) (hg : SG (F.blk scope) tg fg (own.map (·.2))) (ht : STs (F.blk scope) ifs t) (he : SE (F.blk scope) elt fe) (hs : ∀ env x, foldedSetIterable iter env x = pure x := by intro _ _; rfl) :
    SS F (.Assign [.Name y p] (.ListComp elt [⟨tg, iter, ifs, 0⟩] scope pos) spos) (sAsg (eLc (own.map (·.2)) fi fg t fe) (gN i)) := by
  obtain ⟨wi, pi, si⟩ := hi
  obtain ⟨g', pg, sg⟩ := hg
  obtain ⟨tt, pt, st⟩ := ht
  obtain ⟨te, pe, se⟩ := he
  refine ⟨_, fun j => ps_setLc (F.hcalm j) (by rw [F.hN j]; exact hN) (by rw [F.hN j]; exact hy) (by rw [F.hsc j]; exact hyl) (sw_true (by rw [F.hsc j]; exact hk) (by rw [F.hsc j]; exact hyl) hl hany) (pi j) (by rw [F.hN j, F.hsc j, hN0, hsc0]; exact blkOk_by ok) (fun s H C cl fp => pg (j, s, H, C, cl, fp)) (fun s H C cl fp => pt (j, s, H, C, cl, fp)) (fun s H C cl fp => pe (j, s, H, C, cl, fp)) (hs _),
    semAsg (ks := [i]) (semLc si sg st se) fun σ H μ ρ M v w ρ' M' Q h rv rσ rs q => ?_⟩
  cases h
  exact q _ μ H (Ext.refl _ _) (rσ.set rv) rs only_set
end
/-! ### generator expressions -/
def Fam.gen (F : Fam) (k : Nat) (scope : Scope) (N : List Str) : Fam where
  ι := F.ι × Shared × Hp × Addr × Value × List Addr × { A : Around // Room k A }
  X := fun i => gcx (F.X i.1) N i.2.1 i.2.2.1 (gEnv (F.X i.1) scope i.2.2.2.1 i.2.2.2.2.1) i.2.2.2.2.2.1 i.2.2.2.2.2.2.1
  K := F.K
  mg := F.mg
  base := F.base
  prog := F.prog
  w := F.w
  N := N
  sc := scope
  lv := k
  T := F.T
  code := none
  hK := fun i => F.hK i.1
  hmg := fun i => F.hmg i.1
  hbase := fun i => F.hbase i.1
  hprog := fun i => F.hprog i.1
  hw := fun i => F.hw i.1
  hN := fun i => rfl
  hsc := fun i => rfl
  hr := fun i => i.2.2.2.2.2.2.2
  hcalm := fun i => rfl
  hcode := fun c h => nomatch h
  fn := false
  hfn := fun h => nomatch h
  hp := fun _ => PassesOwn.never
def slotE (ρ : Env) (j : Nat) : Option Vl := match ρ[j]? with
  | some o => o
  | none => none
def gen0 (n : Nat) (js : List Nat) (ρ : Env) : Env := List.replicate n none ++ js.map (slotE ρ)
/-- stop: where the test is b it is left with b -/
def allL (stop : Bool) (src : Src) (g : Fg) (t : Ft) (fe : Fe) : Nat → Nat → Env → Mem → Option (Bool × Mem)
  | 0, i, ρ, M => match src M with
    | some xs => match xs[i]? with
      | none => some (!stop, M)
      | some _ => none
    | none => none
  | n + 1, i, ρ, M => match src M with
    | some xs => match xs[i]? with
      | none => some (!stop, M)
      | some x => match g x ρ M with
        | some (ρ1, M1) => match t ρ1 M1 with
          | some (true, M2) => match fe ρ1 M2 with
            | some (.bl b, M3) => if b = stop then some (stop, M3) else allL stop src g t fe n (i + 1) ρ1 M3
            | _ => none
          | some (false, M2) => allL stop src g t fe n (i + 1) ρ1 M2
          | none => none
        | none => none
    | none => none
def eAllG (stop : Bool) (n : Nat) (js : List Nat) (fi : Fi) (g : Fg) (t : Ft) (fe : Fe) : Fe := fun ρ M => match fi ρ M with
  | some (src, m, M1) => match allL stop src g t fe m 0 (gen0 n js ρ) M1 with
    | some (b, M2) => some (.bl b, M2)
    | none => none
  | none => none
section
variable {F : Fam} {e a b o tg iter elt : Expr} {f fa fb fc fe : Fe} {pos p apos gpos : Pos} {es ifs : List Expr} {scope : Scope} {own fr : List Str} {js : List Nat} {k : Nat} {c P : Addr}
theorem Rσ.gen {K : PySem.W.Frag} {μ : List Addr} {H : Hp} {ρ : Env} {σ : L2.St} (r : Rσ K μ H ρ σ) (own : List Str) (js : List Nat) : Rσ K μ H (gen0 own.length js ρ) (sg0 own js σ) := by
  unfold gen0 sg0
  refine ⟨by simp, fun i v h => ?_⟩
  by_cases hi : i < own.length
  · rw [List.getElem?_append_left (by simpa using hi), List.getElem?_replicate] at h
    rw [if_pos hi] at h
    cases h
  · rw [List.getElem?_append_right (by simpa using hi), List.getElem?_map] at h
    rw [List.getElem?_append_right (by simpa using hi), List.getElem?_map]
    rw [List.length_replicate] at h
    rw [List.length_map]
    cases e : js[i - own.length]? with
    | none => rw [e] at h; cases h
    | some j =>
      rw [e] at h
      have h : slotE ρ j = some v := Option.some.inj h
      unfold slotE at h
      cases e2 : ρ[j]? with
      | none => rw [e2] at h; cases h
      | some x =>
        rw [e2] at h
        have h : x = some v := h
        subst h
        obtain ⟨w, h1, h2⟩ := r.at_ j v e2
        exact ⟨w, congrArg some (slotAt_of h1), h2⟩
theorem tab_grow {T : List Addr} {H H' : Hp} (h : Tabs T H) (hP : P ∈ T) (t : Tabbed P H H') : Grow T H H' := by
  refine ⟨fun b o hb n => ?_, fun P' hP' => ?_⟩
  · by_cases e : b = P
    · subst e
      obtain ⟨ps, e1, _⟩ := h b hP
      rw [e1] at hb
      cases hb
      exact (n _ rfl).elim
    · rw [t.2 b e]
      exact hb
  · by_cases e : P' = P
    · subst e
      exact t.1
    · obtain ⟨ps, e1, e2⟩ := h P' hP'
      exact ⟨ps, by rw [t.2 P' e]; exact e1, e2⟩
theorem semAllG {fi : Fi} {fg : Fg} {ks : List Nat} {t : Ft} {wi : TI} {g' : TG} {tt : TT} {te : TE} (hP : P ∈ F.T) (stop : Bool)
    (si : ∀ (σ : L2.St) (H : Hp) (μ : List Addr) (ρ : Env) (M : Mem) (src : Src) (n : Nat) (M' : Mem) (R : It → Hp → Prop), fi ρ M = some (src, n, M') → Rσ F.K μ H ρ σ → RS F.K F.T μ H M → (∀ J μ' H', Ext μ H μ' H' → RS F.K F.T μ' H' M' → ItOk F.K F.T J src μ' H' → R J H') → wi σ H R)
    (sg : ∀ (σ : L2.St) (H : Hp) (μ : List Addr) (ρ : Env) (M : Mem) (v : Vl) (w : V) (ρ' : Env) (M' : Mem) (Q : L2.St → Hp → Prop), fg v ρ M = some (ρ', M') → Rv F.K μ H v w → Rσ F.K μ H ρ σ → RS F.K F.T μ H M → (∀ σ' μ' H', Ext μ H μ' H' → Rσ F.K μ' H' ρ' σ' → RS F.K F.T μ' H' M' → Only ks σ σ' → Q σ' H') → g' w σ H Q)
    (st : SemT F.K F.T tt t) (se : SemE F.K F.T te fe) :
    SemE F.K F.T (fun σ H Q => wi σ H fun J H1 => TabG H1 P ∧ ∀ H2, Tabbed P H1 H2 → Pack J g' tt te (sg0 own js σ) H2 (fun H => Q (.bl (!stop)) H) (fun x H C => ∃ b, x = .bl b ∧ (b = (!stop) → C H) ∧ (b = stop → Q (.bl stop) H))) (eAllG stop own.length js fi fg t fe) := by
  intro σ H μ ρ M v M' Q h rσ rs q
  unfold eAllG at h
  split at h
  · rename_i _ src n M1 h1
    split at h
    · rename_i _ bb M2 h2
      cases h
      refine si σ H μ ρ M _ _ _ _ h1 rσ rs fun J μ1 H1 e1 s1 it => ⟨s1.tab P hP, fun H2 hT => ?_⟩
      have gr := tab_grow s1.tab hP hT
      have e2 : Ext μ1 H1 μ1 H2 := gr.ext
      have s2 := s1.grow gr
      refine ⟨fun i m σ' H' => ∃ μ' ρ1 M3, Ext μ1 H2 μ' H' ∧ Rσ F.K μ' H' ρ1 σ' ∧ RS F.K F.T μ' H' M3 ∧ allL stop src fg t fe m i ρ1 M3 = some (bb, M'), ⟨n, μ1, _, M1, Ext.refl _ _, (rσ.ext (e1.trans e2)).gen own js, s2, h2⟩, ?_⟩
      rintro i m σ3 H3 ⟨μ3, ρ3, M3, e3, r3, s3, h3⟩
      have eI : Ext μ1 H1 μ3 H3 := e2.trans e3
      have stp : ∀ (xs : List Vl), src M3 = some xs → xs[i]? = none → some (!stop, M3) = some (bb, M') → J.stop i H3 ∧ Q (.bl (!stop)) H3 := fun xs hx hn he => by
        cases he
        exact ⟨(it i μ3 H3 _ xs eI s3 hx).1 hn, q _ μ3 H3 (e1.trans eI) (.bl _) s3⟩
      cases m with
      | zero =>
        unfold allL at h3
        split at h3
        · split at h3
          · exact .inl (stp _ (by assumption) (by assumption) h3)
          · cases h3
        · cases h3
      | succ m =>
        unfold allL at h3
        split at h3
        · rename_i _ xs hx
          split at h3
          · exact .inl (stp _ (by assumption) (by assumption) h3)
          · rename_i _ x hxi
            obtain ⟨go, yl⟩ := (it i μ3 H3 M3 xs eI s3 hx).2 x hxi
            refine .inr ⟨go, m, rfl, fun w H4 hy => ?_⟩
            obtain ⟨e4, r4, s4⟩ := yl w H4 hy
            split at h3
            · refine sg σ3 H4 μ3 _ M3 x w _ _ _ (by assumption) r4 (r3.ext e4) s4 fun σ5 μ5 H5 e5 r5 s5 _ => ?_
              have e35 := (e3.trans e4).trans e5
              split at h3
              · refine st σ5 H5 μ5 _ _ _ _ _ (by assumption) r5 s5 fun μ6 H6 e6 s6 => ?_
                show (if true = true then _ else _)
                rw [if_pos rfl]
                split at h3
                · refine se σ5 H6 μ6 _ _ _ _ _ (by assumption) (r5.ext e6) s6 fun w7 μ7 H7 e7 r7 s7 => ?_
                  have e37 := (e35.trans e6).trans e7
                  cases r7
                  refine ⟨_, rfl, fun hb => ?_, fun hb => ?_⟩
                  · rw [if_neg (by rw [hb]; cases stop <;> simp)] at h3
                    exact ⟨m, Nat.le_refl _, μ7, _, _, e37, (r5.ext e6).ext e7, s7, h3⟩
                  · rw [if_pos hb] at h3
                    cases h3
                    exact q _ μ7 H7 ((e1.trans e2).trans e37) (.bl _) s7
                · cases h3
              · refine st σ5 H5 μ5 _ _ _ _ _ (by assumption) r5 s5 fun μ6 H6 e6 s6 => ?_
                show (if false = true then _ else _)
                rw [if_neg (by simp)]
                exact ⟨m, Nat.le_refl _, μ6, _, _, e35.trans e6, r5.ext e6, s6, h3⟩
              · cases h3
            · cases h3
        · cases h3
    · cases h
  · cases h
theorem parts_of {fi : Fi} {fg : Fg} {ks : List Nat} {t : Ft} (hlv : F.lv = k + 1) (hcode : F.code = some (.ref c)) (TB : TabB F.base F.mg c P) (S : gscB F.N F.sc scope own fr js = true) {wi : TI} {g' : TG} {tt : TT} {te : TE}
    (pi : ∀ i, PI (F.X i) tg iter wi) (pg : ∀ i, PG ((F.gen k scope (own ++ fr)).X i) tg g') (pt : ∀ i, PTs ((F.gen k scope (own ++ fr)).X i) ifs tt) (pe : ∀ i, PE ((F.gen k scope (own ++ fr)).X i) elt te) (hs : ∀ env v, genFold iter env v = pure v) (i : F.ι) :
    Parts (F.X i) k own fr js scope elt tg iter ifs wi g' tt te c P :=
  ⟨hlv ▸ F.hr i, by rw [F.hbase i, F.hmg i]; exact TB, F.hcode _ hcode i, by rw [F.hN i, F.hsc i]; exact gsc_by S, pi i, fun s H C code fp A' hA => pg (i, s, H, C, code, fp, ⟨A', hA⟩), fun s H C code fp A' hA => pt (i, s, H, C, code, fp, ⟨A', hA⟩), fun s H C code fp A' hA => pe (i, s, H, C, code, fp, ⟨A', hA⟩), hs _⟩
/-- all(elt for tg in iter if ..) -/
theorem se_allG {fi : Fi} {fg : Fg} {ks : List Nat} {t : Ft} {N0 : List Str} {sc0 : Scope} (hN0 : F.N = N0) (hsc0 : F.sc = sc0) (hgl : Glb F "all") (hm : F.mg "all" = none) (hlv : F.lv = k + 1) (hcode : F.code = some (.ref c)) (TB : TabB F.base F.mg c P) (hP : P ∈ F.T) (S : gscB N0 sc0 scope own fr js = true) (hi : SI F tg iter fi) (hg : SG (F.gen k scope (own ++ fr)) tg fg ks) (ht : STs (F.gen k scope (own ++ fr)) ifs t)
    (he : SE (F.gen k scope (own ++ fr)) elt fe) (hs : ∀ env v, genFold iter env v = pure v := by intro _ _; rfl)
    (hst : ∀ env, starEach [.GeneratorExp elt [⟨tg, iter, ifs, 0⟩] scope gpos] env = (false, eval (.GeneratorExp elt [⟨tg, iter, ifs, 0⟩] scope gpos) env) :: starEach [] env := by intro _; rfl) :
    SE F (.Call (.Name "all" p) [.GeneratorExp elt [⟨tg, iter, ifs, 0⟩] scope gpos] [] pos) (eAllG false own.length js fi fg t fe) := by
  obtain ⟨wi, pi, si⟩ := hi
  obtain ⟨g', pg, sg⟩ := hg
  obtain ⟨tt, pt, st⟩ := ht
  obtain ⟨te, pe, se⟩ := he
  exact ⟨tAllG P own js wi g' tt te, fun i => pe_allG (hgl.gl i) (by rw [F.hmg i]; exact hm) (parts_of (fi := fi) (fg := fg) (ks := ks) (t := t) hlv hcode TB (hN0.symm ▸ hsc0.symm ▸ S) pi pg pt pe hs i) (hst _), semAllG (F := F) hP false si sg st se⟩
theorem se_anyG {fi : Fi} {fg : Fg} {ks : List Nat} {t : Ft} {N0 : List Str} {sc0 : Scope} (hN0 : F.N = N0) (hsc0 : F.sc = sc0) (hgl : Glb F "any") (hm : F.mg "any" = none) (hlv : F.lv = k + 1) (hcode : F.code = some (.ref c)) (TB : TabB F.base F.mg c P) (hP : P ∈ F.T) (S : gscB N0 sc0 scope own fr js = true) (hi : SI F tg iter fi) (hg : SG (F.gen k scope (own ++ fr)) tg fg ks) (ht : STs (F.gen k scope (own ++ fr)) ifs t)
    (he : SE (F.gen k scope (own ++ fr)) elt fe) (hs : ∀ env v, genFold iter env v = pure v := by intro _ _; rfl)
    (hst : ∀ env, starEach [.GeneratorExp elt [⟨tg, iter, ifs, 0⟩] scope gpos] env = (false, eval (.GeneratorExp elt [⟨tg, iter, ifs, 0⟩] scope gpos) env) :: starEach [] env := by intro _; rfl) :
    SE F (.Call (.Name "any" p) [.GeneratorExp elt [⟨tg, iter, ifs, 0⟩] scope gpos] [] pos) (eAllG true own.length js fi fg t fe) := by
  obtain ⟨wi, pi, si⟩ := hi
  obtain ⟨g', pg, sg⟩ := hg
  obtain ⟨tt, pt, st⟩ := ht
  obtain ⟨te, pe, se⟩ := he
  exact ⟨tAnyG P own js wi g' tt te, fun i => pe_anyG (hgl.gl i) (by rw [F.hmg i]; exact hm) (parts_of (fi := fi) (fg := fg) (ks := ks) (t := t) hlv hcode TB (hN0.symm ▸ hsc0.symm ▸ S) pi pg pt pe hs i) (hst _), semAllG (F := F) hP true si sg st se⟩
end
end Sh

set_option Elab.async false
set_option linter.all false
set_option maxRecDepth 100000
set_option maxHeartbeats 2000000
namespace Sh
open PySem PySem.Spec PyProof.Rows L2 NdefX GenE
open GxR (TabB TabG Tabbed)
/-- the bodies of a def, wherever it is called -/
def famD (P : Program) (w : World) (K : PySem.W.Frag) (mg : Str → Option Value) (base : Heap) (T : List Addr) (N : List Str) (qual : Str) (scope : Scope) (f : Addr) (cdv : Value) (k : Nat) : Fam where
  ι := { i : Around × List PySem.Env × Shared × Hp × XK // Room k (i.1.deeper (envOfC qual scope i.2.2.1.heap.objs.size f cdv)) }
  X := fun i => (cxOf CX0 P w K mg base N qual scope f cdv i.1.1 i.1.2.1 i.1.2.2.1 i.1.2.2.2.1 i.1.2.2.2.2).nox
  K := K
  mg := mg
  base := base
  prog := P
  w := w
  N := N
  sc := scope
  lv := k
  T := T
  code := some cdv
  hK := fun _ => rfl
  hmg := fun _ => rfl
  hbase := fun _ => rfl
  hprog := fun _ => rfl
  hw := fun _ => rfl
  hN := fun _ => rfl
  hsc := fun _ => rfl
  hr := fun i => i.2
  hcalm := fun _ => rfl
  hcode := fun c h i => by cases h; rfl
  fn := true
  hfn := fun _ _ _ => rfl
  hp := fun _ => PassesOwn.never
def runD (n : Nat) (s : Fs) : Fd := fun xs M => match s (xs.map some ++ List.replicate (n - xs.length) none) M with
  | some (.rt v, _, M') => some (v, M')
  | some (.nx, _, M') => some (.non, M')
  | _ => none
section
variable {P : Program} {w : World} {K : PySem.W.Frag} {mg : Str → Option Value} {base : Heap} {T : List Addr}
theorem start_rel {μ : List Addr} {H : Hp} {N : List Str} {xs : List Vl} {vs : List V} (r : RvA K μ H xs vs) : Rσ K μ H (xs.map some ++ List.replicate (N.length - xs.length) none) (L2.start N vs) := by
  unfold L2.start
  refine ⟨by simp [r.length], fun i v h => ?_⟩
  by_cases hi : i < xs.length
  · rw [List.getElem?_append_left (by simpa using hi), List.getElem?_map] at h
    rw [List.getElem?_append_left (by rw [List.length_map, ← r.length]; exact hi), List.getElem?_map]
    cases e : xs[i]? with
    | none => rw [e] at h; cases h
    | some x =>
      rw [e] at h
      cases h
      obtain ⟨w, h1, h2⟩ := r.get e
      exact ⟨w, by rw [h1]; rfl, h2⟩
  · rw [List.getElem?_append_right (by simpa using hi), List.getElem?_replicate] at h
    split at h <;> cases h
theorem def_ok {x qual : Str} {st : Stmt} {f : Addr} {oc : Value} {od : Option Addr} {kV doc pm : Value} {an : Option Addr} {cdv ct : Value} {osl : Array (Option Value)} {N ps : List Str} {k : Nat} {s : Fs}
    (lk : K.lookup f = some ⟨oc, od, .func (PySem.W.fnOf x qual (defArgs st) (defBody st) (defScope st) .none kV doc pm an cdv ct), osl⟩) (hcd : PySem.W.codeIn K cdv qual = true) (S : FnScope N ps (defScope st))
    (h : SSs (famD P w K mg base T N qual (defScope st) f cdv k) (defBody st) s) :
    FnOk P w K mg base CX0 (k + 1) f (PySem.W.fnOf x qual (defArgs st) (defBody st) (defScope st) .none kV doc pm an cdv ct) ps (spM K T ps.length (runD N.length s)) := by
  obtain ⟨ts, p, sem⟩ := h
  refine fn_of lk hcd S (fun vs H Q E q => q.1) fun A outer s0 H vs Q E hr hsp => ?_
  obtain ⟨_, μ, M, xs, v, M', rv, rs, hm, q⟩ := hsp
  refine ⟨ts, (p ⟨(A, outer, s0, H, E), hr⟩).nox, ?_⟩
  unfold runD at hm
  split at hm
  · cases hm
    exact sem _ H μ _ M (.rt _) _ _ _ (by assumption) (start_rel rv) rs fun w' μ' H' e r s => q w' μ' H' e r s
  · cases hm
    exact sem _ H μ _ M .nx _ _ _ (by assumption) (start_rel rv) rs fun σ' μ' H' e r s => q .non μ' H' e .non s
  · cases hm
theorem dd_of {x qual : Str} {st : Stmt} {f : Addr} {oc : Value} {od : Option Addr} {kV doc pm : Value} {an : Option Addr} {cdv ct : Value} {osl : Array (Option Value)} {N ps : List Str} {k : Nat} {s : Fs}
    (lk : K.lookup f = some ⟨oc, od, .func (PySem.W.fnOf x qual (defArgs st) (defBody st) (defScope st) .none kV doc pm an cdv ct), osl⟩) (hcd : PySem.W.codeIn K cdv qual = true) (hk : PySem.W.keepIn K (.ref f) = true) (hg : mg x = some (.ref f)) (S : FnScope N ps (defScope st))
    (hb : ∀ kV doc pm an cd ct (us : List Value), us.length = ps.length → bindArgs (PySem.W.fnOf x qual (defArgs st) (defBody st) (defScope st) .none kV doc pm an cd ct) ⟨us, []⟩ = pure (ps.zip us))
    (h : SSs (famD P w K mg base T N qual (defScope st) f cdv k) (defBody st) s) : Dd P w K mg base T (k + 1) x ps.length (runD N.length s) :=
  ⟨f, _, ps, def_ok lk hcd S h, hg, hk, (fun_mk (st := st) lk hcd hk).binds hb⟩
end
end Sh

set_option Elab.async false
set_option linter.all false
set_option maxRecDepth 100000
set_option maxHeartbeats 4000000
/-! set(xs), xs a list of texts, of any length; how many there are -/
namespace SetS
open PySem PySem.Spec PyProof.Rows L2
def stp (l : List Str) (v : Str) : List Str := if l.any (· == v) then l else l ++ [v]
def met (xs : List Str) : List Str := xs.foldl stp []
theorem stp_any (l : List Str) (v k : Str) : (stp l v).any (· == k) = (l.any (· == k) || decide (k = v)) := by
  unfold stp
  by_cases h : l.any (· == v) = true
  · rw [if_pos h]; by_cases e : k = v
    · rw [e, h]; simp
    · simp [e]
  · rw [if_neg h, List.any_append]; by_cases e : k = v
    · rw [e]; simp
    · have hb : (v == k) = false := by rw [beq_eq_false_iff_ne]; exact fun z => e z.symm
      simp [hb, e]
theorem stp_len (l : List Str) (v : Str) : (stp l v).length = if l.any (· == v) then l.length else l.length + 1 := by unfold stp; split <;> simp
theorem met_succ {xs : List Str} {i : Nat} {v : Str} (h : xs[i]? = some v) : met (xs.take (i + 1)) = stp (met (xs.take i)) v := by
  unfold met; rw [List.take_add_one, h, List.foldl_append]; rfl
theorem met_le (xs : List Str) : (met xs).length ≤ xs.length := by
  have q : ∀ (ys l : List Str), (ys.foldl stp l).length ≤ l.length + ys.length := by
    intro ys; induction ys with
    | nil => intro l; exact Nat.le_refl _
    | cons y ys ih => intro l; have := ih (stp l y); have h2 : (stp l y).length ≤ l.length + 1 := by rw [stp_len]; split <;> omega
                      rw [List.foldl_cons, List.length_cons]; omega
  have := q xs []; simpa [met] using this
abbrev stK (P : Program) (w : World) := PySem.strKind P w
section
variable {P : Program} {w : World} {A : Around} {R : Result → Shared → Prop} {I : Addr} {fp wr : List Addr} {G : Array GenState → Array GenState → Prop} {n : Nat} {Pv : Nat → Value → Prop} {St : Nat → Shared → Prop}
theorem keepSet {h h' : Heap} {S : Addr} {f : Str → Bool} {m : Nat} (x : h.SetOf (stK P w) S f m) (k : ∀ o, h.get? S = some o → h'.get? S = some o) : h'.SetOf (stK P w) S f m := by
  obtain ⟨o, es, ep, t, ho, rest⟩ := x; exact ⟨o, es, ep, t, k _ ho, rest⟩
theorem loopS (W : WalksS P w A.in1 I fp wr G n Pv St) (S : Addr) (nS : S ∉ fp) (xs : List Str) (hl : xs.length = n) (hv : ∀ i v, Pv i v → ∃ y t, xs[i]? = some y ∧ v = .str y t) (hb : n + 1 < scanBound) :
    ∀ (k i : Nat) (s : Shared), n - i = k → i ≤ n → St i s → s.heap.SetOf (stK P w) S (fun q => (met (xs.take i)).any (· == q)) (met (xs.take i)).length →
      (∀ s', Moved (S :: wr) G s s' → s'.heap.SetOf (stK P w) S (fun q => (met xs).any (· == q)) (met xs).length → R (.ok (.ret .none)) s') → codeAny (model P w) A (.builtin "set.update.loop" ⟨[.ref S, .ref I], []⟩) R s := by
  have nw : S ∉ wr := fun h => nS (W.sub _ h)
  intro k; induction k with
  | zero =>
    intro i s hk hi hst hS hR
    have e9 : i = n := by omega
    refine codeAny_builtin PyProof.Rows.F.entry_set_update_loop ?_
    rw [Around.under_plainId PyProof.Rows.F.plain_set_update_loop _]; show wpAny _ A.in1 (pyNext (.ref I) >>= _) _ _ s
    rw [e9] at hst hS; rw [List.take_of_length_le (by omega)] at hS
    refine wpAny_bind (W.done s _ _ hst fun s1 hm => ?_); show wpAny _ A.in1 (ret Value.none) _ _ s1
    exact wpAny_pure (hR s1 (hm.mono fun b z => List.mem_cons_of_mem _ z) (keepSet hS fun o ho => hm.heap S _ nw ho))
  | succ k ih =>
    intro i s hk hi hst hS hR
    have lt : i < n := by omega
    refine codeAny_builtin PyProof.Rows.F.entry_set_update_loop ?_
    rw [Around.under_plainId PyProof.Rows.F.plain_set_update_loop _]; show wpAny _ A.in1 (pyNext (.ref I) >>= _) _ _ s
    refine wpAny_bind (W.item i s _ _ lt hst fun v s1 hP st1 hm => ?_)
    obtain ⟨y, t, hy, rfl⟩ := hv i v hP
    have S1 := keepSet (h' := s1.heap) hS fun o ho => hm.heap S _ nw ho
    show wpAny _ A.in1 (holding [Value.str y t] (setAdd S (.str y t)) >>= _) _ _ s1
    refine wpAny_bind (wpAny_holding ?_); unfold setAdd; refine wpAny_holding ?_
    refine wpAny_bind ((stK P w).pyHash (k := y) (strKind_is _ _ _ _) ?_)
    have room : (met (xs.take i)).length + 1 < scanBound := by have := met_le (xs.take i); rw [List.length_take] at this; omega
    refine wpAny_setAddHashed_of (knd := stK P w) (s := { s1 with toks := s1.toks + 1 }) (strKind_is _ _ _ _) rfl S1 room fun h2 sb S2 => ?_
    have S3 : h2.SetOf (stK P w) S (fun q => (met (xs.take (i + 1))).any (· == q)) (met (xs.take (i + 1))).length := PyProof.Rows.SetOf_congr S2 (fun q => by rw [met_succ hy, stp_any]) (by rw [met_succ hy, stp_len])
    refine wpAny_pure ⟨plainId_quiet PyProof.Rows.F.plain_set_update_loop _, ih (i + 1) _ (by omega) lt (W.frame _ s1 _ _ st1 (Nat.le_succ _) fun b hb o e => ?_) S3 fun s2 hm2 q2 => ?_⟩
    · exact (sb.2 b fun z : b = S => nS (by rw [← z]; exact hb)).trans e
    · refine hR s2 (Moved.trans W.gtrans ((hm.mono fun b z => List.mem_cons_of_mem _ z).then_heap (Nat.le_succ _) fun b o hb e => ?_) hm2) q2
      exact (sb.2 b fun z : b = S => hb (by rw [z]; exact List.mem_cons_self)).trans e
end
abbrev newS (led : Bool) : Obj := { cls := .type "set", dict := none, data := .set #[] 0 (.fresh 0 0 led) }
section
variable {P : Program} {w : World} {A : Around} {E : Value → Shared → Prop} {s : Shared}
def Done (P : Program) (w : World) (s : Shared) (xs : List Str) (h' : Heap) : Prop := h'.SetOf (stK P w) s.heap.objs.size (fun q => (met xs).any (· == q)) (met xs).length ∧ ∀ b o, b < s.heap.objs.size → s.heap.get? b = some o → h'.get? b = some o
theorem set_txts {l : Addr} {items : Array Value} {xs : List Str} {Q : Value → Shared → Prop} (hh : A.handled = none) (hl : s.heap.IsList l items) (hi : ∀ (i : Nat) (v : Value), items[i]? = some v → ∃ y t, xs[i]? = some y ∧ v = Value.str y t) (hsz : xs.length = items.size) (hb : items.size + 1 < scanBound)
    (h : ∀ (h' : Heap) (tk : Nat), Done P w s xs h' → Q (.ref s.heap.objs.size) { s with heap := h', toks := tk }) : wpAny (model P w) A (call (.type "set") [.ref l]) Q E s := by
  obtain ⟨c, tl, hmro⟩ := PySem.F.called_set.mro
  have hmade := PySem.F.called_set.made; have hsub := PySem.F.called_set.sub
  refine wpAny_call (codeAny_of_tree ?_); show wpAny _ _ (callAny (.type "set") _) _ _ _
  refine wpAny_pure ⟨Code.quiet_builtin _ (by decide +kernel), codeAny_builtin PySem.F.entry_type_call ?_⟩; rw [Around.under_plain (weight_type_call_type "set" [.ref l] []) rfl]
  have h1 := PySem.F.called_set.notType; have h2 := PySem.F.called_set.canCreate; have hct := PySem.F.typeCall_set_1 (.ref l)
  repeat (any_goals (first | assumption | wp_step))
  refine codeAny_mono (code_set_new_1 (.ref l) (E := E) (Q₁ := fun ob s1 => ∃ led : Bool, ob = .ref s.heap.objs.size ∧ s1 = { s with heap := s.heap.push (newS led) }) fun led => ⟨led, rfl, rfl⟩) fun r s1 hr => ?_
  cases r with
  | error e => exact hr
  | ok fl =>
    cases fl with
    | ret obj =>
      obtain ⟨led, rfl, rfl⟩ := hr
      have gS : (s.heap.push (newS led)).get? s.heap.objs.size = some (newS led) := Heap.get?_push_size _ rfl
      have hT : Shared.TypeIs { s with heap := s.heap.push (newS led) } (.ref s.heap.objs.size) "set" := ⟨_, gS, rfl⟩
      have hli := PySem.F.called_set.init.lookup; have hbi := PySem.F.called_set.init.bind (.ref s.heap.objs.size)
      repeat (any_goals (first | assumption | wp_step))
      refine codeAny_mono (codeAny_call_builtin (R := wants (fun r s2 => r = .none ∧ ∃ h' tk, s2 = { s with heap := h', toks := tk } ∧ Done P w s xs h') E) PySem.F.called_set.init.plain PySem.F.entry_set_init (check_set_init_1 hT ?_)) fun r2 s2 hr2 => ?_
      · obtain ⟨⟨ocls, odict, odata, oslots⟩, hol, hcl, nl, hdl⟩ := hl
        simp only at hcl hdl
        cases hcl; cases hdl
        have hol2 : (s.heap.push (newS led)).get? l = some { cls := .type "list", dict := odict, data := .seq items nl, slots := oslots } := Heap.get?_push_of_some _ hol
        have k1 := PySem.F.sub_list_set; have k2 := PySem.F.sub_list_frozenset
        have k3 : (Value.type "list" == Value.type "dict") = false := by decide
        have isl : (s.heap.push (newS led)).IsList l items := ⟨_, hol2, rfl, nl, rfl⟩
        unfold Builtin.«set.__init__» noKeywords Builtin.Frozenset.updateFrom; generalize hPI : pyIter = PI
        wp_walk
        subst hPI
        refine wpAny_pyIter_list isl (wpAny_bind (wpAny_runValue ?_))
        have lS : (l : Nat) < s.heap.objs.size := Heap.lt_size hol
        have sz1 : (s.heap.push (newS led)).objs.size = s.heap.objs.size + 1 := Heap.size_push ..
        have ne1 : l ≠ (s.heap.push (newS led)).objs.size := by rw [sz1]; exact Nat.ne_of_lt (Nat.lt_succ_of_lt lS)
        refine loopS (n := items.size) ((Walks.list (by simp [hh]) _ l ne1 items).toS) s.heap.objs.size (by rw [sz1]; simp only [List.mem_cons, List.mem_singleton, List.not_mem_nil, or_false, not_or]; exact ⟨Nat.ne_of_lt (Nat.lt_succ_self _), Nat.ne_of_gt lS⟩) xs hsz hi hb (items.size - 0) 0 _ (by omega) (Nat.zero_le _) ⟨⟨_, Heap.get?_push_size _ rfl, rfl, rfl⟩, (isl.push _)⟩ ?a0 ?a1
        case a0 => exact PyProof.Rows.SetOf_congr ((PyProof.Rows.setObjOf_fresh (knd := stK P w) led).setOf (Heap.get?_push_of_some _ gS) (by unfold scanBound; omega)) (fun _ => rfl) rfl
        case a1 =>
          intro s9 hm q9
          obtain ⟨h9, g9, d9, t9, o9⟩ := s9
          cases (show g9 = s.gens from hm.gens); cases (show d9 = s.drawn from hm.drawn); cases (show o9 = s.os from hm.os)
          show wpAny _ _ _ _ _ _
          refine wpAny_pure ?_; show wpAny _ _ (ret Value.none) _ _ _
          refine wpAny_pure ⟨rfl, h9, t9, rfl, q9, fun b o lb e => hm.heap b o ?_ (Heap.get?_push_of_some _ (Heap.get?_push_of_some _ e))⟩
          rw [sz1]; simp only [List.mem_cons, List.mem_singleton, List.not_mem_nil, or_false, not_or]
          exact ⟨Nat.ne_of_lt lb, Nat.ne_of_lt (Nat.lt_succ_of_lt lb)⟩
      · cases r2 with
        | error e => exact hr2
        | ok fl2 =>
          cases fl2 with
          | ret r =>
            obtain ⟨rfl, h9, tk, rfl, d9⟩ := hr2
            repeat (any_goals (first | assumption | wp_step))
            exact h _ _ d9
          | _ => exact hr2.elim
    | _ => exact hr.elim
end
end SetS

set_option Elab.async false
set_option linter.all false
set_option maxRecDepth 100000
set_option maxHeartbeats 2000000
namespace Sh
open PySem PySem.Spec PyProof.Rows L2 NdefX GenE
open GxR (TabB TabG Tabbed)
/-! ### sorted -/
def rSortD (K : PySem.W.Frag) : List V → Hp → VK → Prop := fun vs H Q => ∃ (a : Addr) (ws : List V) (ds : List PyData), vs = [.ref a] ∧ SqL K H a ws ∧ DpAll K H ws ds ∧ PySem.W.AllAlike ds ∧ PySem.W.Sortable ds ∧ (∀ d ∈ ds, d.depth ≤ 64) ∧
  ∀ p, H p = none → Q (.ref p) (upd H p (.lst (((ws.zip ds).mergeSort (PySem.W.dataLe false Prod.snd)).map Prod.fst)))
theorem each_zip {h : Heap} : ∀ {ds : List PyData} {ws : List V} {us : List Value} {as : List Addr}, Vals ws us → PySem.ReadsAll h us ds as → PySem.W.EachIs (fun v (b : V × PyData) => RelV b.1 v) us (ws.zip ds) ∧ PySem.W.EachIs (fun v (b : V × PyData) => ∃ as, PySem.Reads h v b.2 as) us (ws.zip ds) ∧ ws.length = ds.length := by
  intro ds
  induction ds with
  | nil =>
    intro ws us as r h
    cases h
    cases r
    exact ⟨.nil, .nil, rfl⟩
  | cons d ds ih =>
    intro ws us as r h
    cases h with
    | cons h1 h2 =>
      cases r with
      | cons r1 r2 =>
        obtain ⟨a, b, c⟩ := ih r2 h2
        exact ⟨.cons r1 a, .cons ⟨_, h1⟩ b, by rw [List.length_cons, List.length_cons, c]⟩
theorem each_vals : ∀ {us : List Value} {bs : List (V × PyData)}, PySem.W.EachIs (fun v (b : V × PyData) => RelV b.1 v) us bs → Vals (bs.map Prod.fst) us
  | _, _, .nil => .nil
  | _, _, .cons a b => .cons a (each_vals b)
theorem zip_snd {ws : List V} {ds : List PyData} (h : ws.length = ds.length) : (ws.zip ds).map Prod.snd = ds := by
  rw [List.map_snd_zip (by omega)]
theorem cr_sortD {X : Cx} {k : Nat} (hr : Room k X.A) : CallR X (.builtin "sorted") (rSortD X.K) := by
  intro pins s σ H vs us Q I r h
  obtain ⟨a, ws, ds, e, hs, hd, al, so, dp, q⟩ := h
  subst e
  obtain ⟨its, rv, hl, hz⟩ := I.list hs
  obtain ⟨as, rd⟩ := Dp.readsAll I ds ws its hd rv
  obtain ⟨e1, e2, e3⟩ := each_zip rv rd
  obtain ⟨u, eu, rx⟩ := vals1 r
  subst eu
  cases rx
  have hl0 := rv.length
  have hlz : (ws.zip ds).length = ws.length := by rw [List.length_zip, e3]; simp
  refine PySem.W.sorted_data (enc := Prod.snd) hl.isList e1 e2 (by rw [zip_snd e3]; exact al) (by rw [zip_snd e3]; exact so) (by rw [hlz]; exact hz) (fun b hb => ?_) fun out ho eo => ?_
  · have hb' : b.2 ∈ ds := by
      have := List.mem_map_of_mem (f := Prod.snd) hb
      rw [zip_snd e3] at this
      exact this
    have h1 := dp _ hb'
    have h2 := hr.un
    show X.A.units + 2 + b.2.depth < cLine
    omega
  · obtain ⟨ep, he'⟩ := PyProof.Rows.sortedAll_at s.heap its (List.toArray out)
    have rv2 := each_vals eo
    refine ⟨.ref _, upd H (s.heap.objs.size + 1) (.lst (((ws.zip ds).mergeSort (PySem.W.dataLe false Prod.snd)).map Prod.fst)), I.laid (t' := s.toks) (fun _ _ => PyProof.Rows.sortedAll_old) (Nat.le_succ _) ⟨?_, out, ep, rv2, he'⟩, rfl, q _ (I.hok.fresh (Nat.le_succ _))⟩
    rw [List.length_map, List.length_mergeSort, hlz]
    exact hz
def alikeB (ds : List PyData) : Bool := ds.all fun d => ds.all fun d' => PySem.W.alike d d'
def isTupB : PyData → Bool
  | .tuple (_ :: _) => true
  | _ => false
def isFlatB : PyData → Bool
  | .none => false
  | .tuple _ => false
  | _ => true
theorem alike_of {ds : List PyData} (h : alikeB ds = true) : PySem.W.AllAlike ds := by
  unfold alikeB at h
  rw [List.all_eq_true] at h
  exact fun d hd d' hd' => List.all_eq_true.mp (h d hd) d' hd'
theorem sortable_of {ds : List PyData} (h : (ds.all isTupB || ds.all isFlatB) = true) : PySem.W.Sortable ds := by
  rw [Bool.or_eq_true, List.all_eq_true, List.all_eq_true] at h
  rcases h with h | h
  · refine .inl fun d hd => ?_
    have q := h d hd
    cases d with
    | tuple xs =>
      cases xs with
      | nil => cases q
      | cons x r => exact ⟨x, r, rfl⟩
    | _ => cases q
  · refine .inr fun d hd => ⟨fun z => ?_, fun xs z => ?_⟩
    · have q := h d hd; rw [z] at q; cases q
    · have q := h d hd; rw [z] at q; cases q
/-- the items of xs, sorted by the data ds that they are -/
def srt {α : Type} (xs : List α) (ds : List PyData) : List α := ((xs.zip ds).mergeSort (PySem.W.dataLe false Prod.snd)).map Prod.fst
def vSorted : Vl → Mem → Option (Vl × Mem)
  | .ref k, M => match seqAt M k with
    | some xs => match mapO (toD 20 M) xs with
      | some ds => if alikeB ds = true ∧ (ds.all isTupB || ds.all isFlatB) = true then some (.ref M.length, M ++ [.lst (srt xs ds)]) else none
      | none => none
    | none => none
  | _, _ => none
theorem mapO_length {α β : Type} {g : α → Option β} : ∀ {xs : List α} {ys : List β}, mapO g xs = some ys → ys.length = xs.length
  | [], _, h => by cases h; rfl
  | x :: xs, _, h => by
    unfold mapO at h
    split at h
    · cases h
      rw [List.length_cons, List.length_cons, mapO_length (by assumption)]
    · cases h
theorem rvA_iff {K : PySem.W.Frag} {μ : List Addr} {H : Hp} : ∀ {xs : List Vl} {ws : List V}, RvA K μ H xs ws → PySem.W.EachIs (fun x w => Rv K μ H x w) xs ws
  | _, _, .nil => .nil
  | _, _, .cons a b => .cons a (rvA_iff b)
theorem rvA_of {K : PySem.W.Frag} {μ : List Addr} {H : Hp} : ∀ {xs : List Vl} {ws : List V}, PySem.W.EachIs (fun x w => Rv K μ H x w) xs ws → RvA K μ H xs ws
  | _, _, .nil => .nil
  | _, _, .cons a b => .cons a (rvA_of b)
theorem each_zips {K : PySem.W.Frag} {μ : List Addr} {H : Hp} : ∀ {xs : List Vl} {ws : List V} (ds : List PyData), RvA K μ H xs ws → PySem.W.EachIs (fun (x : Vl × PyData) (w : V × PyData) => Rv K μ H x.1 w.1 ∧ x.2 = w.2) (xs.zip ds) (ws.zip ds)
  | _, _, _, .nil => by simp; exact .nil
  | _, _, [], .cons _ _ => .nil
  | _, _, d :: ds, .cons a b => .cons ⟨a, rfl⟩ (each_zips ds b)
theorem each_fst {K : PySem.W.Frag} {μ : List Addr} {H : Hp} : ∀ {xs : List (Vl × PyData)} {ws : List (V × PyData)}, PySem.W.EachIs (fun (x : Vl × PyData) (w : V × PyData) => Rv K μ H x.1 w.1 ∧ x.2 = w.2) xs ws → RvA K μ H (xs.map Prod.fst) (ws.map Prod.fst)
  | _, _, .nil => .nil
  | _, _, .cons a b => .cons a.1 (each_fst b)
theorem zip_same {K : PySem.W.Frag} {μ : List Addr} {H : Hp} {xs : List (Vl × PyData)} {ws : List (V × PyData)} (h : PySem.W.EachIs (fun (x : Vl × PyData) (w : V × PyData) => Rv K μ H x.1 w.1 ∧ x.2 = w.2) xs ws) : ∀ p ∈ xs.zip ws, p.1.2 = p.2.2 := by
  induction h with
  | nil => intro p hp; simp at hp
  | cons a b ih =>
    intro p hp
    rw [List.zip_cons_cons] at hp
    rcases List.mem_cons.mp hp with rfl | hp
    · exact a.2
    · exact ih p hp
theorem rvA_srt {K : PySem.W.Frag} {μ : List Addr} {H : Hp} {xs : List Vl} {ws : List V} (r : RvA K μ H xs ws) (ds : List PyData) : RvA K μ H (srt xs ds) (srt ws ds) := by
  have z := each_zips ds r
  refine each_fst (PySem.W.sort_each z fun p hp q hq => ?_)
  show PySem.W.dataLe false Prod.snd p.1 q.1 = PySem.W.dataLe false Prod.snd p.2 q.2
  unfold PySem.W.dataLe PySem.W.sortLe
  simp only [zip_same z p hp, zip_same z q hq]
section
variable {F : Fam} {e a b c o : Expr} {f fa fb fc : Fe} {pos p apos : Pos} {es : List Expr} {g : Fa}
theorem depth_all {ds : List PyData} {n : Nat} (h : PyData.depthAll ds ≤ n) : ∀ d ∈ ds, d.depth ≤ n := by
  induction ds with
  | nil => intro d hd; cases hd
  | cons x xs ih =>
    unfold PyData.depthAll at h
    intro d hd
    rcases List.mem_cons.mp hd with rfl | hd
    · omega
    · exact ih (by omega) d hd
theorem se_sorted (hg : Glb F "sorted") (hm : F.mg "sorted" = none) (ha : SE F e f) (hs : ∀ env, starEach [e] env = (false, eval e env) :: starEach [] env := by intro _; rfl) : SE F (.Call (.Name "sorted" p) [e] [] pos) (eA (v1 vSorted) (aCons f aNil)) := by
  refine se_blt (fun i => (F.hK i ▸ cr_sortD (X := F.X i) (F.hr i))) ?_ hg hm (by decide +kernel) (sa_cons ha sa_nil hs) (he := hs)
  refine semL1 fun H μ M x w v M' Q h r rs q => ?_
  cases r <;> simp only [vSorted] at h <;> try (cases h; done)
  rename_i k a hk
  split at h
  · split at h
    · split at h
      · rename_i xs hx _ ds hds hc
        cases h
        obtain ⟨o, g1, g2⟩ := seqAt_some hx
        obtain ⟨ws, sq, ra⟩ := rs.seq g1 g2 hk
        obtain ⟨a1, a2, a3⟩ := toD_all (n := 20) (fun x w d => toD_ok rs 20 x w d) hds ra
        refine ⟨a, ws, ds, rfl, sq, a1, alike_of hc.1, sortable_of hc.2, fun d hd => Nat.le_trans (depth_all a3 d hd) (by decide), fun p np => ?_⟩
        obtain ⟨s4, e4, r4⟩ := rs.alloc (u := .lst (srt ws ds)) (o := .lst (srt xs ds)) np fun e => ⟨_, upd_same, (rvA_srt ra ds).ext e⟩
        exact q _ _ _ e4 r4 s4
      · cases h
    · cases h
  · cases h
end
/-! ### t[::-1] -/
theorem revAdj (n : Nat) : Builtin.Slice.sliceAdjust none none (-1) (n : Int) = ((n : Int) - 1, -1) := by unfold Builtin.Slice.sliceAdjust; simp
theorem revPl (n : Nat) : Builtin.Slice.slicePlaces ((n : Int) - 1) (-1) (-1) = n := by
  unfold Builtin.Slice.slicePlaces
  rw [if_neg (by decide)]
  by_cases h : (n : Int) - 1 > -1
  · rw [if_pos h, show (- -1 : Int) = 1 by decide, Int.ediv_one]; omega
  · rw [if_neg h]; omega
theorem fm_some {α β : Type} {f : α → Option β} {g : α → β} : ∀ {l : List α}, (∀ m ∈ l, f m = some (g m)) → l.filterMap f = l.map g
  | [], _ => rfl
  | x :: l, h => by rw [List.filterMap_cons, h x (by simp), List.map_cons, fm_some fun m hm => h m (by simp [hm])]
theorem revPick (xs : Array Value) : ((List.range xs.size).filterMap fun (m : Nat) => xs[(((xs.size : Nat) : Int) - 1 + (m : Int) * (-1)).toNat]?).toArray = xs.toList.reverse.toArray := by
  congr 1
  apply List.ext_getElem?
  intro i
  have e : (List.range xs.size).filterMap (fun (m : Nat) => xs[(((xs.size : Nat) : Int) - 1 + (m : Int) * (-1)).toNat]?) = (List.range xs.size).map (fun m => xs.toList.reverse[m]?.getD .none) := by
    refine fm_some fun m hm => ?_
    have hm := List.mem_range.mp hm
    have e1 : (((xs.size : Nat) : Int) - 1 + (m : Int) * (-1)).toNat = xs.size - 1 - m := by omega
    rw [e1]
    have h2 : m < xs.toList.reverse.length := by simpa using hm
    rw [List.getElem?_eq_getElem h2, List.getElem_reverse]
    have h3 : xs.size - 1 - m < xs.size := by omega
    rw [Array.getElem?_eq_getElem h3]
    simp
  rw [e, List.getElem?_map]
  by_cases hi : i < xs.size
  · rw [List.getElem?_range hi]
    have h2 : i < xs.toList.reverse.length := by simpa using hi
    rw [List.getElem?_eq_getElem h2]
    show some (xs.toList.reverse[i]?.getD Value.none) = _
    rw [List.getElem?_eq_getElem h2]
    rfl
  · rw [List.getElem?_eq_none (by simpa using hi), List.getElem?_eq_none (by simpa using hi)]
    rfl
section
variable {P : Program} {w : World} {A : Around} {E : Value → Shared → Prop} {s : Shared}
theorem applied_rev {sl : Addr} {t : Tok} {n : Nat} {Q : Int × Int × Nat → Shared → Prop} (hs : s.heap.IsSliceOf sl .none .none (.int (-1) t)) (h : Q ((n : Int) - 1, -1, n) s) : wpAny (model P w) A (Builtin.Slice.sliceApplied (.ref sl) (pure (n : Int))) Q E s := by
  obtain ⟨os, ho, hc, hd⟩ := id hs
  unfold Builtin.Slice.sliceApplied Builtin.Slice.sliceFields
  refine wpAny_bind (wpAny_bind (wpAny_field ho hd (x := .none) rfl (wpAny_bind (wpAny_field ho hd (x := .none) rfl (wpAny_bind (wpAny_field ho hd (x := .int (-1) t) rfl (wpAny_pure ?_)))))))
  refine wpAny_bind (HT.slicePart_ (.int (-1) t) ?_)
  show wpAny _ _ (if ((-1 : Int) == 0) = true then _ else _) _ _ s
  rw [if_neg (by decide)]
  refine wpAny_bind (HT.slicePart_ .none (wpAny_bind (HT.slicePart_ .none (wpAny_bind (wpAny_pure ?_)))))
  show wpAny _ _ (match Builtin.Slice.sliceAdjust none none (-1) (n : Int) with | (lo, hi) => pure (lo, (-1 : Int), Builtin.Slice.slicePlaces lo hi (-1))) _ _ s
  rw [revAdj]
  show wpAny _ _ (pure ((n : Int) - 1, (-1 : Int), Builtin.Slice.slicePlaces ((n : Int) - 1) (-1) (-1))) _ _ s
  rw [revPl]
  exact wpAny_pure h
theorem item_rev {t sl : Addr} {tk : Tok} {items : Array Value} {Q : Value → Shared → Prop} (ht : IsTup s.heap t items) (hs : s.heap.IsSliceOf sl .none .none (.int (-1) tk)) (hz : items.size ≤ sizeLine)
    (h : Q (.ref s.heap.objs.size) { s with heap := s.heap.push { cls := .type "tuple", data := .seq items.toList.reverse.toArray } }) : wpAny (model P w) A (getItem (.ref t) (.ref sl)) Q E s := by
  have ok : sizeOk (.seq items.toList.reverse.toArray) := by
    show items.toList.reverse.toArray.size ≤ sizeLine
    simpa using hz
  obtain ⟨os, ho, hc, hd⟩ := id hs
  have ts : s.TypeIs (.ref sl) "slice" := ⟨os, ho, hc⟩
  unfold getItem; try with_reducible refine wpAny_holding ?_
  first | refine wpAny_bind (wpAny_pure ?_) | skip
  refine wpAny_bind (wpAny_sequenceKey ht.typeIs (by decide) ?_); refine wpAny_bind (wpAny_callSpecial?_slot (name := Str.ofString "__getitem__") ht.typeIs PyProof.Rows.slot_tuple_getitem (wpAny_call_entry PyProof.Rows.slot_tuple_getitem ht.typeIs entry_tuple_getitem ?_ (args_tuple_getitem _ _)))
  show wpAny _ _ (Builtin.Tuple.tupleItemsOf (.ref t) >>= _) _ _ s
  refine wpAny_bind (tupleItemsOf_ ht (wpAny_bind (wpAny_typeOf ts ?_)))
  rw [if_pos (by decide)]
  refine wpAny_bind (applied_rev hs ?_)
  have no : ¬ (((((items.size : Nat) : Int) - 1) == 0 && (-1 : Int) == 1 && items.size == items.size) = true) := by simp
  show wpAny _ _ (if ((((items.size : Nat) : Int) - 1) == 0 && (-1 : Int) == 1 && items.size == items.size) = true then _ else _) _ _ s
  rw [if_neg no, revPick]
  first
    | exact wpAny_bind (m := Builtin.Tuple.tupleExact _) (wpAny_newObj_type (wpAny_pure ⟨_, rfl, wpAny_pure h⟩) ok)
    | exact wpAny_bind (m := Builtin.Tuple.tupleExact _) (wpAny_newObj_type (wpAny_bind (wpAny_pure (wpAny_pure ⟨_, rfl, wpAny_pure h⟩))) ok)
    | exact wpAny_bind (wpAny_bind (m := Builtin.Tuple.tupleExact _) (wpAny_newObj_type (wpAny_pure (wpAny_pure ⟨_, rfl, wpAny_pure h⟩)) ok))
    | exact wpAny_bind (wpAny_bind (m := Builtin.Tuple.tupleExact _) (wpAny_newObj_type (wpAny_pure ⟨_, rfl, wpAny_pure h⟩) ok))
end
def tRevT (K : PySem.W.Frag) (te : TE) : TE := fun σ H Q => te σ H fun x H1 => ∃ a xs, x = .ref a ∧ SqT K H1 a xs ∧ ∀ p, H1 p = none → Q (.ref p) (upd H1 p (.tup xs.reverse))
theorem pe_revT {X : Cx} {e : Expr} {te : TE} {k : Nat} {p1 p2 p3 pos : Pos} (he : PE X e te) : PE X (.Subscript e (.Slice none none (some (.UnaryOp .USub (.Constant (.int 1) k p1) p2)) p3) pos) (tRevT X.K te) := by
  refine ⟨fun pins s σ H Q I h => Subscript_ (thn (he.run pins s σ H _ I h) fun v s1 ⟨x, H1, I1, r1, q1⟩ => ?_)⟩
  obtain ⟨a, xs, ex, hx, q⟩ := q1
  cases ex
  cases r1
  have hst : PO X (some (.UnaryOp .USub (.Constant (.int 1) k p1) p2)) (tPart (tUn (rU fun i => .int (-i)) (tC (.int 1)))) := po_some (pe_un un_neg pe_int)
  refine wpAny_Slice (thn (po_none.run pins s1 σ H1 (fun o H2 => o = none ∧ H2 = H1) I1 ⟨rfl, rfl⟩) fun vl s2 ⟨l, H2, I2, pl, el, z2⟩ => ?_)
  cases el; cases z2
  refine thn (po_none.run pins s2 σ H1 (fun o H3 => o = none ∧ H3 = H1) I2 ⟨rfl, rfl⟩) fun vu s3 ⟨u, H3, I3, pu, eu, z3⟩ => ?_
  cases eu; cases z3
  refine thn (hst.run pins s3 σ H1 (fun o H4 => o = some (-1) ∧ H4 = H1) I3 ⟨1, rfl, -1, rfl, rfl, rfl⟩) fun vs s4 ⟨o, H4, I4, ps, eo, z4⟩ => ?_
  cases eo; cases z4
  cases pl; cases pu
  cases ps with
  | int i t =>
    have I5 : Inv X pins σ H1 { s4 with heap := s4.heap.push { cls := .type "slice", data := .fields #[.none, .none, .int (-1) t] } } := I4.kept (t' := s4.toks) fun b ob q => Heap.get?_push_of_some _ q
    obtain ⟨its, r, ht, hz⟩ := I5.tuple hx
    have hlen := r.length
    show wpAny (model X.prog X.w) X.A (subscriptTail e (.Slice none none (some (.UnaryOp .USub (.Constant (.int 1) k p1) p2)) p3) (.ref a) (.ref s4.heap.objs.size)) (EP X pins σ Q) X.xe { s4 with heap := s4.heap.push { cls := .type "slice", data := .fields #[.none, .none, .int (-1) t] } }
    refine tail_any (ops := [.ref a, .ref s4.heap.objs.size]) ht.typeIs (PyProof.Rows.slot_tuple_getitem.lookup) ?_ (by with_unfolding_all rfl)
    refine item_rev ht (Heap.IsSliceOf.new _ .none .none (.int (-1) t)) (by rw [List.size_toArray]; omega) ?_
    refine ⟨.ref _, _, I5.laid (t' := s4.toks) (o := .tup xs.reverse) (fun b ob q => Heap.get?_push_of_some _ q) (Nat.le_refl _) ?_, rfl, q _ (I5.hok.fresh (Nat.le_refl _))⟩
    exact ⟨by rw [List.length_reverse]; exact hz, its.reverse, r.reverse, IsTup.new _ _⟩
def eRevT (f : Fe) : Fe := fun ρ M => match f ρ M with
  | some (.tup _ xs, M1) => some (.tup false xs.reverse, M1)
  | _ => none
theorem RvA.reverse {K : PySem.W.Frag} {μ : List Addr} {H : Hp} {xs : List Vl} {ws : List V} (r : RvA K μ H xs ws) : RvA K μ H xs.reverse ws.reverse := by
  have q : ∀ {xs : List Vl} {ws : List V}, RvA K μ H xs ws → RvA K μ H xs.reverse ws.reverse := by
    intro xs
    induction xs with
    | nil => intro ws r; cases r; exact .nil
    | cons x xs ih =>
      intro ws r
      cases r with
      | cons a b => rw [List.reverse_cons, List.reverse_cons]; exact (ih b).append (.cons a .nil)
  exact q r
theorem se_revT {F : Fam} {e : Expr} {f : Fe} {k : Nat} {p1 p2 p3 pos : Pos} (h : SE F e f) : SE F (.Subscript e (.Slice none none (some (.UnaryOp .USub (.Constant (.int 1) k p1) p2)) p3) pos) (eRevT f) := by
  obtain ⟨te, pe, se⟩ := h
  refine ⟨_, fun i => F.hK i ▸ pe_revT (pe i), fun σ H μ ρ M v M' Q h rσ rs q => ?_⟩
  unfold eRevT at h
  split at h
  · cases h
    refine se σ H μ ρ M _ _ _ (by assumption) rσ rs fun w1 μ1 H1 e1 r1 s1 => ?_
    cases r1 with
    | tup sq r _ =>
      refine ⟨_, _, rfl, sq, fun p np => ?_⟩
      obtain ⟨s4, e4, r4⟩ := s1.tup np r.reverse
      exact q _ _ _ (e1.trans e4) r4 s4
  · cases h
/-! ### len(set(xs)) of texts -/
def tLenSetS (K : PySem.W.Frag) (ta : TE) : TE := fun σ H Q => ta σ H fun x H1 => ∃ l, ∃ xs : List Str, x = .ref l ∧ SqL K H1 l (xs.map V.str) ∧ xs.length ≤ 1000 ∧ Q (.int (SetS.met xs).length) H1
theorem strs_get {xs : List Str} {us : List Value} (r : Vals (xs.map V.str) us) {i : Nat} {v : Value} (h : us[i]? = some v) : ∃ y t, xs[i]? = some y ∧ v = Value.str y t := by
  have hl := r.length
  have hi : i < xs.length := by
    have := (List.getElem?_eq_some_iff.mp h).1
    rw [List.length_map] at hl
    omega
  have g : (xs.map V.str)[i]? = some (V.str xs[i]) := by rw [List.getElem?_map, List.getElem?_eq_getElem hi]; rfl
  obtain ⟨u, h1, h2⟩ := r.get g
  rw [h] at h1
  cases h1
  obtain ⟨t, e⟩ := h2
  exact ⟨xs[i], t, List.getElem?_eq_getElem hi, e⟩
theorem pe_lenSetS {X : Cx} {a : Expr} {ta : TE} {p p2 q pos : Pos} (hc : X.calm = true) (hg : Gl X "len") (hm : X.mg "len" = none) (hg2 : Gl X "set") (hm2 : X.mg "set" = none) (ha : PE X a ta) (na : starEach [a] X.env = (false, eval a X.env) :: starEach [] X.env) :
    PE X (.Call (.Name "len" p) [.Call (.Name "set" p2) [a] [] q] [] pos) (tLenSetS X.K ta) := by
  refine ⟨fun pins s σ H Q I h => Call_ (ld_blt I hg hm boot_len (PyProof.Rows.callWith_builtin1 (PyProof.Rows.args_cons ?_ rfl) rfl rfl))⟩
  refine Call_ (ld_blt I hg2 hm2 boot_set (PyProof.Rows.callWith_type1 (PyProof.Rows.args_cons (thn (ha.run pins s σ H _ I h) fun v s1 ⟨x, H1, I1, r1, q1⟩ => PyProof.Rows.args_nil ?_) na) na rfl))
  obtain ⟨l, xs, e, hq, h1, q1⟩ := q1
  cases e
  cases r1
  obtain ⟨its, r, pl, hz⟩ := I1.list hq
  have hl := r.length
  rw [List.length_map] at hl
  refine SetS.set_txts (xs := xs) (I1.ok.hd hc) pl.isList (fun i v hv => strs_get r (by simpa using hv)) (by simpa using hl) (by rw [List.size_toArray]; unfold scanBound; omega) fun h9 tk d => PyProof.Rows.args_nil ?_
  obtain ⟨⟨o, es, ep, t, ho, hex, hd, _, _, _, hf, hn⟩, hk⟩ := d
  have I2 : Inv X pins σ H1 { s1 with heap := h9, toks := tk } := I1.kept fun b o e => hk b o (Heap.lt_size e) e
  have hml := SetS.met_le xs
  exact call_len_set ho hex hd hf (by rw [hn] <;> omega) ⟨.int (SetS.met xs).length, H1, I2.tok _, ⟨_, by rw [hn]⟩, q1⟩
def eLenSet (f : Fe) : Fe := fun ρ M => match f ρ M with
  | some (.ref k, M1) => match seqAt M1 k with
    | some xs => match txts xs with
      | some ys => if ys.length ≤ 1000 then some (.int (SetS.met ys).length, M1) else none
      | none => none
    | none => none
  | _ => none
theorem se_lenSet {F : Fam} {a : Expr} {f : Fe} {p p2 q pos : Pos} (hg : Glb F "len") (hm : F.mg "len" = none) (hg2 : Glb F "set") (hm2 : F.mg "set" = none) (ha : SE F a f) (na : ∀ env, starEach [a] env = (false, eval a env) :: starEach [] env := by intro _; rfl) :
    SE F (.Call (.Name "len" p) [.Call (.Name "set" p2) [a] [] q] [] pos) (eLenSet f) := by
  obtain ⟨te, pe, se⟩ := ha
  refine ⟨_, fun i => F.hK i ▸ pe_lenSetS (F.hcalm i) (hg.gl i) (by rw [F.hmg i]; exact hm) (hg2.gl i) (by rw [F.hmg i]; exact hm2) (pe i) (na _), fun σ H μ ρ M v M' Q h rσ rs q => ?_⟩
  unfold eLenSet at h
  split at h
  · split at h
    · split at h
      · split at h
        · cases h
          refine se σ H μ ρ M _ _ _ (by assumption) rσ rs fun w1 μ1 H1 e1 r1 s1 => ?_
          cases r1 with
          | ref hk =>
            obtain ⟨o, g1, g2⟩ := seqAt_some (by assumption)
            obtain ⟨ws, sq, ra⟩ := s1.seq g1 g2 hk
            have ew := txts_ok (by assumption) ra
            subst ew
            exact ⟨_, _, rfl, sq, by assumption, q _ μ1 H1 e1 (.int _) s1⟩
        · cases h
      · cases h
    · cases h
  · cases h
/-! ### dict(t)[k], t a tuple of pairs that is known -/
def rDictT (K : PySem.W.Frag) : List V → Hp → VK → Prop := fun xs H Q => ∃ (a : Addr) (ps : List Addr) (kvs : List (Key × V)), xs = [.ref a] ∧ SqT K H a (ps.map V.ref) ∧ Nd H a ∧ Paired (fun p kv => SqT K H p [kV kv.1, kv.2]) ps kvs ∧ ∀ p, H p = none → Q (.ref p) (upd H p (.dK (mergeK [] kvs)))
theorem call_dictT {X : Cx} (hcalm : X.calm = true) : CallR X (.type "dict") (rDictT X.K) := by
  intro pins s σ H xs us Q I r q
  obtain ⟨a, ps, kvs, ex, hq, ⟨o, u0, ho, hdict⟩, hp, q⟩ := q
  cases ex
  obtain ⟨u, eu, rx⟩ := vals1 r
  cases eu
  cases rx
  obtain ⟨its, rv, pl, hz⟩ := I.tuple hq
  have ei := refs_at rv
  subst ei
  rw [List.length_map] at hz
  obtain ⟨prs, rel, hl, hpr⟩ := pairs_of I hp
  have hob : s.heap.get? a = some o := (I.hok a _ ho).1
  obtain ⟨o2, ho2, hc, n, hd⟩ := id pl
  have eo : o2 = o := Option.some.inj (ho2.symm.trans hob)
  subst eo
  have pick : ∀ j (hj : j < prs.length), ∃ (u : Value), IsTup s.heap (ps.getD j 0) #[u, (prs[j]).2] ∧ keyIs (prs[j]).1 u = true ∧ ps[j]? = some (ps.getD j 0) := fun j hj => by
    obtain ⟨b, u, e1, e2, e3⟩ := hpr j prs[j] (List.getElem?_eq_getElem hj)
    have e4 : ps.getD j 0 = b := by rw [List.getD_eq_getElem?_getD, e1]; rfl
    exact ⟨u, by rw [e4]; exact e2, e3, by rw [e4]; exact e1⟩
  -- the values of the pairs, chosen
  obtain ⟨vs, hvl, hvs⟩ : ∃ vs : List (Value × Value), vs.length = prs.length ∧ ∀ (j : Nat) (k v : Value), vs[j]? = some (k, v) → ∃ hj : j < prs.length, IsTup s.heap (ps.getD j 0) #[k, v] ∧ keyIs (prs[j]).1 k = true ∧ ps[j]? = some (ps.getD j 0) ∧ v = (prs[j]).2 := by
    refine ⟨(List.range prs.length).map fun j => if hj : j < prs.length then ((pick j hj).choose, (prs[j]).2) else (.none, .none), by simp, fun j k v e => ?_⟩
    have hj : j < prs.length := by
      have := (List.getElem?_eq_some_iff.mp e).1
      simpa using this
    rw [List.getElem?_map, List.getElem?_range hj] at e
    have e := Option.some.inj e
    have e2 : ((pick j hj).choose, (prs[j]).2) = (k, v) := (dif_pos hj).symm.trans e
    cases e2
    have h := (pick j hj).choose_spec
    exact ⟨hj, h.1, h.2.1, h.2.2, rfl⟩
  have P := PySem.PairArg.tuple (prog := X.prog) (w := X.w) a (ps.map Value.ref).toArray (fun j => ps.getD j 0) vs
  have ok : PySem.PlainSeq "tuple" s.heap a (ps.map Value.ref).toArray ∧ PySem.PairItems s.heap (ps.map Value.ref).toArray (fun j => ps.getD j 0) vs := by
    refine ⟨⟨o2, n, ho2, hc, hdict, hd⟩, by simp [hvl, hl], fun j k v e => ?_⟩
    obtain ⟨hj, h1, h2, h3, h4⟩ := hvs j k v e
    exact ⟨by simp only [List.getElem?_toArray, List.getElem?_map, h3]; rfl, .inl h1⟩
  have hc2 : PySem.PairsHave (mixKind X.prog X.w) vs.length (PySem.PairRel vs) prs := by
    refine ⟨hvl.symm, fun j key v e => ?_⟩
    obtain ⟨hj, h1, h2, h3, h4⟩ := hvs j key v e
    exact ⟨(prs[j]).1, by rw [List.getElem?_eq_getElem hj, h4], h2⟩
  refine PySem.call_dict_pairs P (I.ok.hd hcalm) ok hc2 (by rw [hvl, hl]; exact hz) fun h' tk hd' k => ?_
  have hm : (s.heap.objs.size == sysModules) = false := beq_eq_false_iff_ne.mpr (Nat.ne_of_gt I.big)
  have hlen : (mergeK [] kvs).length ≤ sizeLine := by
    refine Nat.le_trans (length_mergeK kvs []) ?_
    rw [List.length_nil, Nat.zero_add, rel.length, hl]
    exact hz
  exact ⟨.ref s.heap.objs.size, upd H s.heap.objs.size (.dK (mergeK [] kvs)), I.laid (t' := tk) (fun b o e => k b o (by simp) e) (Nat.le_refl _) (show ObjOk X.prog X.w _ _ _ (.dK (mergeK [] kvs)) from ⟨hlen, hm, merged [] prs, KV.merge rel .nil, hd'⟩), rfl, q _ (I.hok.fresh (Nat.le_refl _))⟩
def putL (kvs : List (Key × Vl)) (k : Key) (v : Vl) : List (Key × Vl) := if (kvs.any fun kv => decide (kv.1 = k)) = true then kvs.map (fun kv => if kv.1 = k then (kv.1, v) else kv) else kvs ++ [(k, v)]
def mergeL (kvs more : List (Key × Vl)) : List (Key × Vl) := more.foldl (fun acc kv => putL acc kv.1 kv.2) kvs
def keyOf : Vl → Option Key
  | .int i => some (.inl i)
  | .str x => some (.inr x)
  | _ => none
def pairOf : Vl → Option (Key × Vl)
  | .tup _ [k, v] => (keyOf k).map fun k => (k, v)
  | _ => none
def vDict : Vl → Mem → Option (Vl × Mem)
  | .tup true xs, M => match mapO pairOf xs with
    | some kvs => some (.ref M.length, M ++ [.dic (mergeL [] kvs)])
    | none => none
  | _, _ => none
theorem Rk.put {K : PySem.W.Frag} {μ : List Addr} {H : Hp} {a : List (Key × Vl)} {b : List (Key × V)} {k : Key} {v : Vl} {w : V} (r : Rk K μ H a b) (rv : Rv K μ H v w) : Rk K μ H (putL a k v) (putK b k w) := by
  have key : ∀ {a : List (Key × Vl)} {b : List (Key × V)}, a.map (·.1) = b.map (·.1) → RvA K μ H (a.map (·.2)) (b.map (·.2)) → (a.any fun kv => decide (kv.1 = k)) = (b.any fun kv => decide (kv.1 = k)) ∧
      Rk K μ H (a.map (fun kv => if kv.1 = k then (kv.1, v) else kv)) (b.map (fun kv => if kv.1 = k then (kv.1, w) else kv)) := by
    intro a
    induction a with
    | nil =>
      intro b h1 h2
      cases b with
      | nil => exact ⟨rfl, rfl, .nil⟩
      | cons y ys => cases h1
    | cons x xs ih =>
      intro b h1 h2
      cases b with
      | nil => cases h1
      | cons y ys =>
        simp only [List.map_cons, List.cons.injEq] at h1
        cases h2 with
        | cons r1 r2 =>
          obtain ⟨a1, a2, a3⟩ := ih h1.2 r2
          obtain ⟨x1, x2⟩ := x
          obtain ⟨y1, y2⟩ := y
          have e : x1 = y1 := h1.1
          subst e
          refine ⟨by simp only [List.any_cons, a1], ?_⟩
          by_cases hx : x1 = k
          · simp only [List.map_cons, hx, if_true]
            exact ⟨by simp only [List.map_cons, List.cons.injEq, true_and]; exact a2, .cons rv a3⟩
          · simp only [List.map_cons, hx, if_false]
            exact ⟨by simp only [List.map_cons, List.cons.injEq, true_and]; exact a2, .cons r1 a3⟩
  obtain ⟨h1, h2⟩ := key r.1 r.2
  unfold putL putK
  rw [h1]
  split
  · exact h2
  · exact ⟨by simp [r.1], by simpa using r.2.append (.cons rv .nil)⟩
theorem Rk.merge {K : PySem.W.Frag} {μ : List Addr} {H : Hp} : ∀ {m : List (Key × Vl)} {n : List (Key × V)} {a : List (Key × Vl)} {b : List (Key × V)}, Rk K μ H m n → Rk K μ H a b → Rk K μ H (mergeL a m) (mergeK b n)
  | [], [], _, _, _, r => r
  | [], _ :: _, _, _, h, _ => by cases h.1
  | _ :: _, [], _, _, h, _ => by cases h.1
  | (k, v) :: m, (k', w) :: n, a, b, h, r => by
    have h1 := h.1
    simp only [List.map_cons, List.cons.injEq] at h1
    have e : k = k' := h1.1
    subst e
    cases h.2 with
    | cons r1 r2 => exact Rk.merge (m := m) (n := n) ⟨h1.2, r2⟩ (r.put r1)
theorem key_rel {K : PySem.W.Frag} {μ : List Addr} {H : Hp} {x : Vl} {w : V} {k : Key} (r : Rv K μ H x w) (h : keyOf x = some k) : w = kV k := by
  cases r <;> simp only [keyOf] at h <;> try (cases h; done)
  · cases h; rfl
  · cases h; rfl
theorem pairs_rel {K : PySem.W.Frag} {μ : List Addr} {H : Hp} : ∀ {xs : List Vl} {ws : List V} {kvs : List (Key × Vl)}, mapO pairOf xs = some kvs → RvA K μ H xs ws →
    ∃ (ps : List Addr) (kws : List (Key × V)), ws = ps.map V.ref ∧ Paired (fun p kv => SqT K H p [kV kv.1, kv.2]) ps kws ∧ Rk K μ H kvs kws
  | [], _, _, h, .nil => by
    cases h
    exact ⟨[], [], rfl, .nil, rfl, .nil⟩
  | x :: xs, _, _, h, .cons r rs => by
    unfold mapO at h
    split at h
    · rename_i y ys h1 h2
      cases h
      obtain ⟨ps, kws, e1, e2, e3⟩ := pairs_rel h2 rs
      subst e1
      unfold pairOf at h1
      split at h1
      · rw [Option.map_eq_some_iff] at h1
        obtain ⟨k, hk, e⟩ := h1
        cases e
        cases r with
        | tup sq r nn =>
          cases r with
          | cons r1 r2 =>
            cases r2 with
            | cons r3 r4 =>
              cases r4
              have e9 := key_rel r1 hk
              subst e9
              exact ⟨_ :: ps, (k, _) :: kws, rfl, .cons sq e2, by simp [e3.1], .cons r3 e3.2⟩
      · cases h1
    · cases h
section
variable {F : Fam} {e a b c o : Expr} {f fa fb fc : Fe} {pos p apos : Pos} {es : List Expr} {g : Fa}
theorem se_dict (hg : Glb F "dict") (hm : F.mg "dict" = none) (ha : SE F e f) (hs : ∀ env, starEach [e] env = (false, eval e env) :: starEach [] env := by intro _; rfl) : SE F (.Call (.Name "dict" p) [e] [] pos) (eA (v1 vDict) (aCons f aNil)) := by
  refine se_bty (fun i => (F.hK i ▸ call_dictT (X := F.X i) (F.hcalm i))) ?_ hg hm (by decide +kernel) (sa_cons ha sa_nil hs) (he := hs)
  refine semL1 fun H μ M x w v M' Q h r rs q => ?_
  unfold vDict at h
  split at h
  · split at h
    · cases h
      cases r with
      | tup sq r nn =>
        obtain ⟨ps, kws, e1, e2, e3⟩ := pairs_rel (by assumption) r
        subst e1
        refine ⟨_, ps, kws, rfl, sq, nn rfl, e2, fun p np => ?_⟩
        obtain ⟨s4, e4, r4⟩ := rs.alloc (u := .dK (mergeK [] kws)) (o := .dic _) np fun e => ⟨_, upd_same, (Rk.merge (a := []) (b := []) e3 ⟨rfl, .nil⟩).1, (Rk.merge (a := []) (b := []) e3 ⟨rfl, .nil⟩).2.ext e⟩
        exact q _ _ _ e4 r4 s4
    · cases h
  · cases h
def lookL (kvs : List (Key × Vl)) (k : Key) : Option Vl := (kvs.find? fun kv => decide (kv.1 = k)).map (·.2)
theorem Rk.look {K : PySem.W.Frag} {μ : List Addr} {H : Hp} : ∀ {a : List (Key × Vl)} {b : List (Key × V)} {k : Key} {v : Vl}, Rk K μ H a b → lookL a k = some v → ∃ w, valV b k = some w ∧ Rv K μ H v w
  | [], [], _, _, _, h => by simp [lookL] at h
  | [], _ :: _, _, _, h, _ => by cases h.1
  | _ :: _, [], _, _, h, _ => by cases h.1
  | (x1, x2) :: a, (y1, y2) :: b, k, v, h, hv => by
    have h1 := h.1
    simp only [List.map_cons, List.cons.injEq] at h1
    have e : x1 = y1 := h1.1
    subst e
    cases h.2 with
    | cons r1 r2 =>
      unfold lookL at hv
      rw [List.find?_cons] at hv
      by_cases hx : x1 = k
      · simp only [hx, decide_true] at hv
        cases hv
        exact ⟨y2, valV_pos hx, r1⟩
      · simp only [hx, decide_false] at hv
        obtain ⟨w, e1, e2⟩ := Rk.look (a := a) (b := b) ⟨h1.2, r2⟩ hv
        exact ⟨w, (valV_neg hx).trans e1, e2⟩
def vDGet : Vl → Vl → Mem → Option (Vl × Mem)
  | .ref k, y, M => match M[k]?, keyOf y with
    | some (.dic kvs), some kk => (lookL kvs kk).map fun v => (v, M)
    | _, _ => none
  | _, _, _ => none
theorem se_dget (ha : SE F a fa) (hb : SE F b fb) (hs : NoSl b := by exact fun _ _ => rfl) : SE F (.Subscript a b pos) (e2 vDGet fa fb) := by
  obtain ⟨ta, pa, sa⟩ := ha
  obtain ⟨tb, pb, sb⟩ := hb
  refine ⟨_, fun i => pe_dget (hu_of (F.hr i)) (pa i) (pb i) hs, fun σ H μ ρ M v M' Q h rσ rs q => ?_⟩
  obtain ⟨x, M1, y, M2, h1, h2, h3⟩ := e2_some h
  refine sa σ H μ ρ M x M1 _ h1 rσ rs fun w1 μ1 H1 e1 r1 s1 => ?_
  refine sb σ H1 μ1 ρ M1 y M2 _ h2 (rσ.ext e1) s1 fun w2 μ2 H2 e2 r2 s2 => ?_
  have r1' := r1.ext e2
  unfold vDGet at h3
  split at h3
  · split at h3
    · rename_i kvs kk hM hkk
      rw [Option.map_eq_some_iff] at h3
      obtain ⟨v', hv, e⟩ := h3
      cases e
      cases r1' with
      | ref hk =>
        obtain ⟨kws, e3, r3⟩ := s2.mem.ob _ _ _ hM hk
        obtain ⟨w, g1, g2⟩ := r3.look hv
        have ey : w2 = kV kk := by
          cases r2 <;> simp only [keyOf] at hkk <;> try (cases hkk; done)
          · cases hkk; rfl
          · cases hkk; rfl
        subst ey
        have dg := DGet.k (k := kk) e3
        rw [g1] at dg
        exact ⟨_, w, rfl, dg, q _ μ2 H2 (e1.trans e2) g2 s2⟩
    · cases h3
  · cases h3
end
/-! ### the ends -/
theorem fun_out {K : PySem.W.Frag} {x qual : Str} {params : Arguments} {body : List Stmt} {scope : Scope} {f : Addr} {fd : FuncData} (F : FunD K x qual params body scope [] [] f fd) :
    ∃ (oc : Value) (od : Option Addr) (kV doc pm : Value) (an : Option Addr) (c : Addr) (ct : Value) (osl : Array (Option Value)), fd = PySem.W.fnOf x qual params body scope .none kV doc pm an (.ref c) ct ∧
      K.lookup f = some ⟨oc, od, .func (PySem.W.fnOf x qual params body scope .none kV doc pm an (.ref c) ct), osl⟩ ∧ PySem.W.codeIn K (.ref c) qual = true ∧ PySem.W.keepIn K (.ref f) = true := by
  obtain ⟨oc, od, dV, kV, doc, pm, an, cdv, ct, osl, e, lk, hcd, dv, _⟩ := F.ex
  have e2 : dV = .none := by
    rcases dv with ⟨_, z⟩ | ⟨z, _⟩
    · exact z
    · exact absurd rfl z
  subst e2
  obtain ⟨c, e3⟩ := He.codeIn_ref hcd
  subst e3
  subst e
  exact ⟨oc, od, kV, doc, pm, an, c, ct, osl, rfl, lk, hcd, F.kp⟩
theorem tabB {base : Heap} {mg : Str → Option Value} {c P : Addr} (t : LamX.TabB base mg c P) : TabB base mg c P := ⟨t.code, t.bm, t.gP⟩
theorem ints_rel {K : PySem.W.Frag} {μ : List Addr} {H : Hp} : ∀ ns : List Int, RvA K μ H (ns.map Vl.int) (ns.map V.int)
  | [] => .nil
  | n :: ns => .cons (.int n) (ints_rel ns)
theorem law_start {K : PySem.W.Frag} {T : List Addr} {m : Fd} {H : Hp} {a : Addr} {ns : List Int} (good : ∀ (o : Ob) (ns : List Int), o.seq = some (ns.map Vl.int) → ns.length ≤ 63 → (∀ z ∈ ns, Builtin.Int.intBits z ≤ 1048576) → ∃ M, m [.ref 0] [o] = some (.bl true, M))
    (hl : ns.length ≤ 63) (hb : ∀ z ∈ ns, Builtin.Int.intBits z ≤ 1048576) (hT : ∀ P ∈ T, H P = some (.tbl #[])) (hS : SqL K H a (ns.map V.int)) : spM K T 1 m [.ref a] H (fun v _ => v = .bl true) fun _ _ _ => False := by
  have tabs : Tabs T H := fun P hP => ⟨#[], hT P hP, trivial⟩
  have key : ∀ o : Ob, o.seq = some (ns.map Vl.int) → Ro K [a] H a o → spM K T 1 m [.ref a] H (fun v _ => v = .bl true) fun _ _ _ => False := fun o ho ro => by
    obtain ⟨M', hm⟩ := good o ns ho hl hb
    refine ⟨rfl, [a], [o], [.ref 0], .bl true, M', .cons (.ref rfl) .nil, ⟨⟨rfl, fun k o' b h1 h2 => ?_, fun j k b o1 o2 h1 h2 _ _ _ _ => ?_⟩, tabs⟩, hm, fun w μ' H' _ r _ => by cases r; rfl⟩
    · cases k with
      | zero => cases h1; cases h2; exact ro
      | succ k => simp at h1
    · cases j with
      | zero =>
        cases k with
        | zero => rfl
        | succ k => simp at h2
      | succ j => simp at h1
  rcases hS with (h | ⟨o, h⟩) | h
  · exact key (.lst (ns.map Vl.int)) rfl ⟨_, h, ints_rel ns⟩
  · exact key (.fro (ns.map Vl.int)) rfl ⟨_, .inl ⟨o, h⟩, ints_rel ns⟩
  · exact key (.fro (ns.map Vl.int)) rfl ⟨_, .inr fun H' => .inr h, ints_rel ns⟩
end Sh

set_option Elab.async false
set_option linter.all false
set_option maxRecDepth 100000
set_option maxHeartbeats 4000000
namespace K01
open PySem PySem.Spec PyProof.Rows L2 NdefX GenE Sh
open GxR (TabB TabG Tabbed)
def topS (i : Nat) : Stmt := PySem.Challenge.pw_weave_k01_names_and_stocks.main.body.getD i (.Pass ⟨0, 0, 0, 0⟩)
abbrev s_is_tuple : Stmt := topS 1
theorem sc_is_tuple : FnScope ["thing", "many"] ["thing", "many"] (defScope s_is_tuple) := ⟨rfl, rfl, rfl, by decide +kernel, rfl, by decide +kernel, by decide +kernel⟩
def m_is_tuple : Fd := runD 2 (sRet (eAnd (eIsi "tuple" (eVar 0)) (e2 vEq (eA (v1 vLen) (aCons (eVar 0) aNil)) (eVar 1))))
abbrev s_rises : Stmt := topS 2
theorem sc_rises : FnScope ["things"] ["things"] (defScope s_rises) := ⟨rfl, rfl, rfl, by decide +kernel, rfl, by decide +kernel, by decide +kernel⟩
def m_rises : Fd := runD 1 (sRet (eAllG false 1 [0] (iRange1 (e2 vSub (eA (v1 vLen) (aCons (eVar 0) aNil)) (eC (.int 1)))) (gN 0) tYs (e2 vLt (e2 vIx (eVar 1) (eVar 0)) (e2 vIx (eVar 1) (e2 vAdd (eVar 0) (eC (.int 1)))))))
abbrev s_is_spelled : Stmt := topS 3
theorem sc_is_spelled : FnScope ["text", "signs", "most"] ["text", "signs", "most"] (defScope s_is_spelled) := ⟨rfl, rfl, rfl, by decide +kernel, rfl, by decide +kernel, by decide +kernel⟩
def m_is_spelled : Fd := runD 3 (sRet (eAnd (e3 vLe vLe (eC (.int 1)) (eA (v1 vLen) (aCons (eVar 0) aNil)) (eVar 2)) (eAllG false 1 [1] (iSeq (eVar 0)) (gN 0) tYs (e2 vIn (eVar 0) (eVar 1)))))
abbrev s_is_name : Stmt := topS 9
theorem sc_is_name : FnScope ["thing"] ["thing"] (defScope s_is_name) := ⟨rfl, rfl, rfl, by decide +kernel, rfl, by decide +kernel, by decide +kernel⟩
def m_is_name : Fd := runD 1 (sRet (eAnd (eIsi "str" (eVar 0)) (eA m_is_spelled (aCons (eVar 0) (aCons (eC (.str (Str.ofString "abcdefghijklmnopqrstuvwxyz"))) (aCons (eC (.int 8)) aNil))))))
abbrev s_is_spec : Stmt := topS 10
theorem sc_is_spec : FnScope ["thing"] ["thing"] (defScope s_is_spec) := ⟨rfl, rfl, rfl, by decide +kernel, rfl, by decide +kernel, by decide +kernel⟩
def m_is_spec : Fd := runD 1 (sRet (eAnd (eA m_is_tuple (aCons (eVar 0) (aCons (eC (.int 2)) aNil))) (eAnd (eA m_is_name (aCons (e2 vIx (eVar 0) (eC (.int 0))) aNil)) (e2 vIn (e2 vIx (eVar 0) (eC (.int 1))) (eA mkT (aCons (eC (.str (Str.ofString "+"))) (aCons (eC (.str (Str.ofString "-"))) aNil)))))))
abbrev s_are_specs : Stmt := topS 11
theorem sc_are_specs : FnScope ["thing"] ["thing"] (defScope s_are_specs) := ⟨rfl, rfl, rfl, by decide +kernel, rfl, by decide +kernel, by decide +kernel⟩
def m_are_specs : Fd := runD 1 (sRet (eAnd (eIsi "tuple" (eVar 0)) (eAllG false 1 [] (iSeq (eVar 0)) (gN 0) tYs (eA m_is_spec (aCons (eVar 0) aNil)))))
abbrev s_is_entry : Stmt := topS 12
theorem sc_is_entry : FnScope ["thing", "kind", "ports"] ["thing"] (defScope s_is_entry) := ⟨rfl, rfl, rfl, by decide +kernel, rfl, by decide +kernel, by decide +kernel⟩
def m_is_entry : Fd := runD 3 (sCons (sIf (tN (tV (eA m_is_tuple (aCons (eVar 0) (aCons (eC (.int 2)) aNil))))) (sRet (eC (.bl false))) sNil)
    (sCons (sAsg (eVar 0) (gT 2 (gsCons (gN 1) (gsCons (gN 2) gsNil))))
    (sRet (eAnd (eA m_is_name (aCons (eVar 1) aNil)) (eAnd (eA m_are_specs (aCons (eVar 2) aNil)) (e3 vLe vLe (eC (.int 1)) (eA (v1 vLen) (aCons (eVar 2) aNil)) (eC (.int 4))))))))
abbrev s_is_stock : Stmt := topS 13
theorem sc_is_stock : FnScope ["thing", "entry"] ["thing"] (defScope s_is_stock) := ⟨rfl, rfl, rfl, by decide +kernel, rfl, by decide +kernel, by decide +kernel⟩
def m_is_stock : Fd := runD 2 (sCons (sIf (tO (tN (tV (eIsi "tuple" (eVar 0)))) (tN (tV (e3 vLe vLe (eC (.int 1)) (eA (v1 vLen) (aCons (eVar 0) aNil)) (eC (.int 8)))))) (sRet (eC (.bl false))) sNil)
    (sCons (sIf (tN (tV (eAllG false 1 [] (iSeq (eVar 0)) (gN 0) tYs (eA m_is_entry (aCons (eVar 0) aNil))))) (sRet (eC (.bl false))) sNil)
    (sRet (eA m_rises (aCons (eLc [1] (iSeq (eVar 0)) (gN 1) tYs (e2 vIx (eVar 1) (eC (.int 0)))) aNil)))))
abbrev s_mate_of : Stmt := topS 14
theorem sc_mate_of : FnScope ["spec", "sort", "side"] ["spec"] (defScope s_mate_of) := ⟨rfl, rfl, rfl, by decide +kernel, rfl, by decide +kernel, by decide +kernel⟩
def m_mate_of : Fd := runD 3 (sCons (sAsg (eVar 0) (gT 2 (gsCons (gN 1) (gsCons (gN 2) gsNil))))
    (sRet (eA mkT (aCons (eVar 1) (aCons (eIf (tV (e2 vEq (eVar 2) (eC (.str (Str.ofString "+"))))) (eC (.str (Str.ofString "-"))) (eC (.str (Str.ofString "+")))) aNil)))))
abbrev s_ports_of : Stmt := topS 15
theorem sc_ports_of : FnScope ["stock", "kind"] ["stock", "kind"] (defScope s_ports_of) := ⟨rfl, rfl, rfl, by decide +kernel, rfl, by decide +kernel, by decide +kernel⟩
def m_ports_of : Fd := runD 2 (sRet (e2 vDGet (eA (v1 vDict) (aCons (eVar 0) aNil)) (eVar 1)))
abbrev s_law_digits : Stmt := topS 17
theorem sc_law_digits : FnScope ["_law_script", "_law_k", "_law_cell", "_law_total", "_law_number", "_law_turn"] ["_law_script", "_law_k"] (defScope s_law_digits) := ⟨rfl, rfl, rfl, by decide +kernel, rfl, by decide +kernel, by decide +kernel⟩
def m_law_digits : Fd := runD 6 (sCons (sAsg (eIf (tV (e2 vLt (eVar 1) (eA (v1 vLen) (aCons (eVar 0) aNil)))) (e2 vIx (eVar 0) (eVar 1)) (eC (.int 0))) (gN 2))
    (sCons (sIf (tV (e2 vGe (eVar 2) (e2 vPow (eC (.int 10)) (eC (.int 18))))) (sRet (eA mkL (aCons (e2 vSub (eVar 2) (e2 vPow (eC (.int 10)) (eC (.int 18)))) aNil))) sNil)
    (sCons (sAsg (eC (.int 0)) (gN 3))
    (sCons (sAsg (e2 vMod (e2 vAdd (e2 vAdd (e2 vMul (eVar 2) (eC (.int 48271))) (e2 vMul (eC (.int 7919)) (eVar 1))) (eC (.int 11))) (eC (.int 2147483647))) (gN 4))
    (sCons (sFor (iRange1 (eC (.int 12))) (gN 5) (sCons (sAsg (e2 vMod (e2 vAdd (e2 vAdd (e2 vMul (eVar 4) (eVar 4)) (e2 vMul (eC (.int 48271)) (eVar 4))) (eVar 5)) (eC (.int 2147483629))) (gN 4))
    (sAsg (e2 vAdd (e2 vMul (eVar 3) (eC (.int 2147483587))) (e2 vMod (e2 vMul (eVar 4) (eC (.int 69621))) (eC (.int 2147483587)))) (gN 3))))
    (sRet (eA mkL (aCons (eVar 3) aNil))))))))
abbrev s_law_take : Stmt := topS 18
theorem sc_law_take : FnScope ["_law_held", "_law_many", "_law_found"] ["_law_held", "_law_many"] (defScope s_law_take) := ⟨rfl, rfl, rfl, by decide +kernel, rfl, by decide +kernel, by decide +kernel⟩
def m_law_take : Fd := runD 3 (sCons (sAsg (e2 vMod (e2 vIx (eVar 0) (eC (.int 0))) (eVar 1)) (gN 2))
    (sCons (sAsg (e2 vDiv (e2 vIx (eVar 0) (eC (.int 0))) (eVar 1)) (gSb (eVar 0) (eC (.int 0))))
    (sRet (eVar 2))))
abbrev s_law_words : Stmt := topS 19
theorem sc_law_words : FnScope ["_law_held", "_law_many", "_law_letters", "_law_word", "_law_at", "_law_other", "_law_some", "_law_start", "_law_k"] ["_law_held", "_law_many"] (defScope s_law_words) := ⟨rfl, rfl, rfl, by decide +kernel, rfl, by decide +kernel, by decide +kernel⟩
def m_law_words : Fd := runD 9 (sCons (sAsg (eC (.str (Str.ofString "abcdefghijklmnop"))) (gN 2))
    (sCons (sAsg (e2 vJoin (eC (.str (Str.ofString ""))) (eLc [8] (iRange1 (e2 vAdd (eC (.int 2)) (eA m_law_take (aCons (eVar 0) (aCons (eC (.int 6)) aNil))))) (gN 8) tYs (e2 vIx (eVar 2) (eA m_law_take (aCons (eVar 0) (aCons (eC (.int 16)) aNil)))))) (gN 3))
    (sCons (sAsg (eA m_law_take (aCons (eVar 0) (aCons (eA (v1 vLen) (aCons (eVar 3) aNil)) aNil))) (gN 4))
    (sCons (sAsg (e2 vIx (eVar 2) (e2 vMod (e2 vAdd (e2 vAdd (e2 vSIndex (eVar 2) (e2 vIx (eVar 3) (eVar 4))) (eC (.int 1))) (eA m_law_take (aCons (eVar 0) (aCons (eC (.int 15)) aNil)))) (eC (.int 16)))) (gN 5))
    (sCons (sAsg (eA mkL (aCons (eVar 3) (aCons (e2 vAdd (e2 vAdd (eSl (eVar 3) oNone (oSome (eVar 4))) (eVar 5)) (eSl (eVar 3) (oSome (e2 vAdd (eVar 4) (eC (.int 1)))) oNone)) (aCons (e2 vAdd (eVar 3) (eVar 5)) (aCons (eSl (eVar 3) oNone (oSome (eNeg (eC (.int 1))))) aNil))))) (gN 6))
    (sCons (sAsg (eA m_law_take (aCons (eVar 0) (aCons (eC (.int 4)) aNil))) (gN 7))
    (sRet (eLc [8] (iRange1 (eVar 1)) (gN 8) tYs (e2 vIx (eVar 6) (e2 vMod (e2 vAdd (eVar 7) (eVar 8)) (eC (.int 4))))))))))))
abbrev s_law_stock : Stmt := topS 20
theorem sc_law_stock : FnScope ["_law_held", "_law_pool", "_law_start", "_law_kinds", "_law_sorts", "_law_rows", "_law_k", "_law_ports", "_law_p"] ["_law_held"] (defScope s_law_stock) := ⟨rfl, rfl, rfl, by decide +kernel, rfl, by decide +kernel, by decide +kernel⟩
def m_law_stock : Fd := runD 9 (sCons (sAsg (eA mkL (aCons (eC (.str (Str.ofString "a"))) (aCons (eC (.str (Str.ofString "add"))) (aCons (eC (.str (Str.ofString "adder"))) (aCons (eC (.str (Str.ofString "cut"))) (aCons (eC (.str (Str.ofString "ring"))) (aCons (eC (.str (Str.ofString "outer"))) (aCons (eC (.str (Str.ofString "rule"))) (aCons (eC (.str (Str.ofString "abcdefgh"))) aNil))))))))) (gN 1))
    (sCons (sAsg (eA m_law_take (aCons (eVar 0) (aCons (eC (.int 8)) aNil))) (gN 2))
    (sCons (sAsg (eLc [6] (iRange1 (eC (.int 4))) (gN 6) tYs (e2 vIx (eVar 1) (e2 vMod (e2 vAdd (eVar 2) (e2 vMul (eC (.int 3)) (eVar 6))) (eC (.int 8))))) (gN 3))
    (sCons (sIf (tV (e2 vEq (eA m_law_take (aCons (eVar 0) (aCons (eC (.int 2)) aNil))) (eC (.int 0)))) (sAsg (eA m_law_words (aCons (eVar 0) (aCons (eC (.int 4)) aNil))) (gN 3)) sNil)
    (sCons (sAsg (eA m_law_words (aCons (eVar 0) (aCons (e2 vAdd (eC (.int 1)) (eA m_law_take (aCons (eVar 0) (aCons (eC (.int 3)) aNil)))) aNil))) (gN 4))
    (sCons (sAsg (eA mkL aNil) (gN 5))
    (sCons (sFor (iRange1 (e2 vAdd (eC (.int 1)) (eA m_law_take (aCons (eVar 0) (aCons (eC (.int 4)) aNil))))) (gN 6) (sCons (sAsg (eA mkL aNil) (gN 7))
    (sCons (sFor (iRange1 (e2 vAdd (eC (.int 1)) (eA m_law_take (aCons (eVar 0) (aCons (eC (.int 4)) aNil))))) (gN 8) (sEx (eApp (eVar 7) (eA mkT (aCons (e2 vIx (eVar 4) (eA m_law_take (aCons (eVar 0) (aCons (eA (v1 vLen) (aCons (eVar 4) aNil)) aNil)))) (aCons (e2 vIx (eC (.str (Str.ofString "+-"))) (eA m_law_take (aCons (eVar 0) (aCons (eC (.int 2)) aNil)))) aNil))))))
    (sCons (sIf (tAn (tV (e2 vNe (eVar 5) (eA mkL aNil))) (tV (e2 vEq (eA m_law_take (aCons (eVar 0) (aCons (eC (.int 3)) aNil))) (eC (.int 0))))) (sAsg (e2 vIx (e2 vIx (eVar 5) (eC (.int 0))) (eC (.int 1))) (gN 7)) sNil)
    (sEx (eApp (eVar 5) (eA mkT (aCons (e2 vIx (eVar 3) (eVar 6)) (aCons (eA (v1 vTuple) (aCons (eVar 7) aNil)) aNil)))))))))
    (sRet (eA (v1 vTuple) (aCons (eA (v1 vSorted) (aCons (eVar 5) aNil)) aNil))))))))))
abbrev s_law_name : Stmt := topS 21
theorem sc_law_name : FnScope ["_law_thing", "_law_sign"] ["_law_thing"] (defScope s_law_name) := ⟨rfl, rfl, rfl, by decide +kernel, rfl, by decide +kernel, by decide +kernel⟩
def m_law_name : Fd := runD 2 (sCons (sIf (tO (tN (tV (eIsi "str" (eVar 0)))) (tO (tV (e2 vEq (eA (v1 vLen) (aCons (eVar 0) aNil)) (eC (.int 0)))) (tV (e2 vGt (eA (v1 vLen) (aCons (eVar 0) aNil)) (eC (.int 8)))))) (sRet (eC (.bl false))) sNil)
    (sRet (e2 vEq (eA (v1 vLen) (aCons (eLc [1] (iSeq (eVar 0)) (gN 1) (tV (e2 vNotIn (eVar 1) (eC (.str (Str.ofString "abcdefghijklmnopqrstuvwxyz"))))) (eVar 1)) aNil)) (eC (.int 0)))))
abbrev s_law_spec : Stmt := topS 22
theorem sc_law_spec : FnScope ["_law_thing"] ["_law_thing"] (defScope s_law_spec) := ⟨rfl, rfl, rfl, by decide +kernel, rfl, by decide +kernel, by decide +kernel⟩
def m_law_spec : Fd := runD 1 (sCons (sIf (tO (tN (tV (eIsi "tuple" (eVar 0)))) (tO (tV (e2 vNe (eA (v1 vLen) (aCons (eVar 0) aNil)) (eC (.int 2)))) (tN (tV (eA m_law_name (aCons (e2 vIx (eVar 0) (eC (.int 0))) aNil)))))) (sRet (eC (.bl false))) sNil)
    (sRet (eOr (e2 vEq (e2 vIx (eVar 0) (eC (.int 1))) (eC (.str (Str.ofString "+")))) (e2 vEq (e2 vIx (eVar 0) (eC (.int 1))) (eC (.str (Str.ofString "-")))))))
abbrev s_law_right : Stmt := topS 23
theorem sc_law_right : FnScope ["_law_thing", "_law_row", "_law_kinds", "_law_spec_here"] ["_law_thing"] (defScope s_law_right) := ⟨rfl, rfl, rfl, by decide +kernel, rfl, by decide +kernel, by decide +kernel⟩
def m_law_right : Fd := runD 4 (sCons (sIf (tO (tN (tV (eIsi "tuple" (eVar 0)))) (tO (tV (e2 vEq (eA (v1 vLen) (aCons (eVar 0) aNil)) (eC (.int 0)))) (tV (e2 vGt (eA (v1 vLen) (aCons (eVar 0) aNil)) (eC (.int 8)))))) (sRet (eC (.bl false))) sNil)
    (sCons (sFor (iSeq (eVar 0)) (gN 1) (sCons (sIf (tO (tN (tV (eIsi "tuple" (eVar 1)))) (tO (tV (e2 vNe (eA (v1 vLen) (aCons (eVar 1) aNil)) (eC (.int 2)))) (tO (tN (tV (eA m_law_name (aCons (e2 vIx (eVar 1) (eC (.int 0))) aNil)))) (tN (tV (eIsi "tuple" (e2 vIx (eVar 1) (eC (.int 1))))))))) (sRet (eC (.bl false))) sNil)
    (sIf (tO (tN (tV (e3 vLe vLe (eC (.int 1)) (eA (v1 vLen) (aCons (e2 vIx (eVar 1) (eC (.int 1))) aNil)) (eC (.int 4))))) (tN (tV (eA (v1 vAll) (aCons (eLc [3] (iSeq (e2 vIx (eVar 1) (eC (.int 1)))) (gN 3) tYs (eA m_law_spec (aCons (eVar 3) aNil))) aNil))))) (sRet (eC (.bl false))) sNil)))
    (sCons (sAsg (eLc [1] (iSeq (eVar 0)) (gN 1) tYs (e2 vIx (eVar 1) (eC (.int 0)))) (gN 2))
    (sRet (eAnd (e2 vEq (eVar 2) (eA (v1 vSorted) (aCons (eVar 2) aNil))) (e2 vEq (eLenSet (eVar 2)) (eA (v1 vLen) (aCons (eVar 2) aNil))))))))
abbrev s_law_text : Stmt := topS 24
theorem sc_law_text : FnScope ["_law_held", "_law_signs", "_law_k"] ["_law_held"] (defScope s_law_text) := ⟨rfl, rfl, rfl, by decide +kernel, rfl, by decide +kernel, by decide +kernel⟩
def m_law_text : Fd := runD 3 (sCons (sAsg (e2 vIx (eA mkL (aCons (eC (.str (Str.ofString "abcdefghijklmnopqrstuvwxyz"))) (aCons (eC (.str (Str.ofString "abcdefghijklmnopqrstuvwxyzA1 -_."))) aNil))) (eA m_law_take (aCons (eVar 0) (aCons (eC (.int 2)) aNil)))) (gN 1))
    (sRet (e2 vJoin (eC (.str (Str.ofString ""))) (eLc [2] (iRange1 (eA m_law_take (aCons (eVar 0) (aCons (eC (.int 11)) aNil)))) (gN 2) tYs (e2 vIx (eVar 1) (eA m_law_take (aCons (eVar 0) (aCons (eA (v1 vLen) (aCons (eVar 1) aNil)) aNil))))))))
abbrev s_law_odd : Stmt := topS 25
theorem sc_law_odd : FnScope ["_law_held"] ["_law_held"] (defScope s_law_odd) := ⟨rfl, rfl, rfl, by decide +kernel, rfl, by decide +kernel, by decide +kernel⟩
def m_law_odd : Fd := runD 1 (sRet (e2 vIx (eA mkL (aCons (eC (.int 0)) (aCons (eC (.int 1)) (aCons (eC (.bl true)) (aCons (eC (.bl false)) (aCons (eC .non) (aCons (eC (.str (Str.ofString ""))) (aCons (eA mkT aNil) (aCons (eA mkL aNil) (aCons (eC (.str (Str.ofString "+"))) (aCons (eA mkT (aCons (eC (.str (Str.ofString "n"))) (aCons (eC (.str (Str.ofString "+"))) aNil))) (aCons (eA mkL (aCons (eC (.str (Str.ofString "n"))) (aCons (eC (.str (Str.ofString "+"))) aNil))) (aCons (eA mkT (aCons (eA mkT (aCons (eC (.str (Str.ofString "a"))) (aCons (eA mkT (aCons (eA mkT (aCons (eC (.str (Str.ofString "n"))) (aCons (eC (.str (Str.ofString "+"))) aNil))) aNil)) aNil))) aNil)) aNil))))))))))))) (eA m_law_take (aCons (eVar 0) (aCons (eC (.int 12)) aNil)))))
abbrev s_law_bent_spec : Stmt := topS 26
theorem sc_law_bent_spec : FnScope ["_law_held", "_law_spec_here", "_law_side", "_law_some"] ["_law_held", "_law_spec_here"] (defScope s_law_bent_spec) := ⟨rfl, rfl, rfl, by decide +kernel, rfl, by decide +kernel, by decide +kernel⟩
def m_law_bent_spec : Fd := runD 4 (sCons (sAsg (e2 vIx (eA mkL (aCons (eC (.str (Str.ofString "*"))) (aCons (eC (.str (Str.ofString ""))) (aCons (eC (.str (Str.ofString "+-"))) (aCons (eC (.str (Str.ofString "--"))) (aCons (eC (.str (Str.ofString " "))) (aCons (eC (.bl true)) (aCons (eC .non) (aCons (eC (.int 1)) (aCons (eA mkT (aCons (eC (.str (Str.ofString "+"))) aNil)) aNil)))))))))) (eA m_law_take (aCons (eVar 0) (aCons (eC (.int 9)) aNil)))) (gN 2))
    (sCons (sAsg (eA mkL (aCons (eVar 1) (aCons (eA mkL (aCons (e2 vIx (eVar 1) (eC (.int 0))) (aCons (e2 vIx (eVar 1) (eC (.int 1))) aNil))) (aCons (eA mkT (aCons (e2 vIx (eVar 1) (eC (.int 0))) aNil)) (aCons (e2 vAdd (eVar 1) (eA mkT (aCons (eC (.str (Str.ofString "+"))) aNil))) (aCons (eA mkT (aCons (e2 vIx (eVar 1) (eC (.int 1))) (aCons (e2 vIx (eVar 1) (eC (.int 0))) aNil))) (aCons (eA mkT (aCons (e2 vIx (eVar 1) (eC (.int 0))) (aCons (eVar 2) aNil))) aNil))))))) (gN 3))
    (sRet (e2 vIx (e2 vAdd (eVar 3) (eA mkL (aCons (eA mkT (aCons (eA m_law_text (aCons (eVar 0) aNil)) (aCons (e2 vIx (eVar 1) (eC (.int 1))) aNil))) (aCons (eA mkT (aCons (eA m_law_odd (aCons (eVar 0) aNil)) (aCons (e2 vIx (eVar 1) (eC (.int 1))) aNil))) aNil)))) (eA m_law_take (aCons (eVar 0) (aCons (eC (.int 8)) aNil)))))))
abbrev s_law_bent_row : Stmt := topS 27
theorem sc_law_bent_row : FnScope ["_law_held", "_law_row", "_law_place", "_law_ports", "_law_some"] ["_law_held", "_law_row"] (defScope s_law_bent_row) := ⟨rfl, rfl, rfl, by decide +kernel, rfl, by decide +kernel, by decide +kernel⟩
def m_law_bent_row : Fd := runD 5 (sCons (sAsg (eA m_law_take (aCons (eVar 0) (aCons (eA (v1 vLen) (aCons (e2 vIx (eVar 1) (eC (.int 1))) aNil)) aNil))) (gN 2))
    (sCons (sAsg (e2 vAdd (e2 vAdd (eSl (e2 vIx (eVar 1) (eC (.int 1))) oNone (oSome (eVar 2))) (eA mkT (aCons (eA m_law_bent_spec (aCons (eVar 0) (aCons (e2 vIx (e2 vIx (eVar 1) (eC (.int 1))) (eVar 2)) aNil))) aNil))) (eSl (e2 vIx (eVar 1) (eC (.int 1))) (oSome (e2 vAdd (eVar 2) (eC (.int 1)))) oNone)) (gN 3))
    (sCons (sAsg (eA mkL (aCons (eA mkT (aCons (e2 vIx (eVar 1) (eC (.int 0))) (aCons (eVar 3) aNil))) (aCons (eA mkT (aCons (e2 vIx (eVar 1) (eC (.int 0))) (aCons (eA mkT aNil) aNil))) (aCons (eA mkT (aCons (e2 vIx (eVar 1) (eC (.int 0))) (aCons (e2 vAdd (e2 vIx (eVar 1) (eC (.int 1))) (e2 vMul (eSl (e2 vIx (eVar 1) (eC (.int 1))) oNone (oSome (eC (.int 1)))) (eC (.int 4)))) aNil))) (aCons (eA mkT (aCons (e2 vIx (eVar 1) (eC (.int 0))) (aCons (eSl (e2 vMul (e2 vIx (eVar 1) (eC (.int 1))) (eC (.int 5))) oNone (oSome (eC (.int 5)))) aNil))) aNil))))) (gN 4))
    (sCons (sAsg (e2 vAdd (eVar 4) (eA mkL (aCons (eA mkT (aCons (e2 vIx (eVar 1) (eC (.int 0))) (aCons (eSl (e2 vMul (e2 vIx (eVar 1) (eC (.int 1))) (eC (.int 4))) oNone (oSome (eC (.int 4)))) aNil))) (aCons (eA mkT (aCons (e2 vIx (eVar 1) (eC (.int 0))) (aCons (eA (v1 vList) (aCons (e2 vIx (eVar 1) (eC (.int 1))) aNil)) aNil))) (aCons (eA mkL (aCons (e2 vIx (eVar 1) (eC (.int 0))) (aCons (e2 vIx (eVar 1) (eC (.int 1))) aNil))) (aCons (eA mkT (aCons (e2 vIx (eVar 1) (eC (.int 0))) aNil)) (aCons (e2 vAdd (eVar 1) (eA mkT (aCons (eC (.int 1)) aNil))) aNil))))))) (gN 4))
    (sRet (e2 vIx (e2 vAdd (eVar 4) (eA mkL (aCons (eA mkT (aCons (eA m_law_text (aCons (eVar 0) aNil)) (aCons (e2 vIx (eVar 1) (eC (.int 1))) aNil))) (aCons (eA mkT (aCons (eA m_law_odd (aCons (eVar 0) aNil)) (aCons (e2 vIx (eVar 1) (eC (.int 1))) aNil))) (aCons (eA m_law_odd (aCons (eVar 0) aNil)) aNil))))) (eA m_law_take (aCons (eVar 0) (aCons (eC (.int 12)) aNil)))))))))
abbrev s_law_bent : Stmt := topS 28
theorem sc_law_bent : FnScope ["_law_held", "_law_stock_here", "_law_place", "_law_row", "_law_more", "_law_great", "_law_sign", "_law_some"] ["_law_held", "_law_stock_here"] (defScope s_law_bent) := ⟨rfl, rfl, rfl, by decide +kernel, rfl, by decide +kernel, by decide +kernel⟩
def m_law_bent : Fd := runD 8 (sCons (sAsg (eA m_law_take (aCons (eVar 0) (aCons (eA (v1 vLen) (aCons (eVar 1) aNil)) aNil))) (gN 2))
    (sCons (sAsg (eA m_law_bent_row (aCons (eVar 0) (aCons (e2 vIx (eVar 1) (eVar 2)) aNil))) (gN 3))
    (sCons (sAsg (eA mkT (aCons (e2 vAdd (eC (.str (Str.ofString "zz"))) (e2 vIx (eC (.str (Str.ofString "abcdefgh"))) (e2 vSub (eA (v1 vLen) (aCons (eVar 1) aNil)) (eC (.int 1))))) (aCons (e2 vIx (e2 vIx (eVar 1) (eC (.int 0))) (eC (.int 1))) aNil))) (gN 4))
    (sCons (sAsg (eVar 1) (gN 5))
    (sCons (sFor (iSeq (eSl (eC (.str (Str.ofString "abcdefgh"))) oNone (oSome (e2 vSub (e2 vIx (eA mkL (aCons (eC (.int 8)) (aCons (eC (.int 9)) aNil))) (eA m_law_take (aCons (eVar 0) (aCons (eC (.int 2)) aNil)))) (eA (v1 vLen) (aCons (eVar 1) aNil)))))) (gN 6) (sAsg (e2 vAdd (eVar 5) (eA mkT (aCons (eA mkT (aCons (e2 vAdd (eC (.str (Str.ofString "zz"))) (eVar 6)) (aCons (e2 vIx (e2 vIx (eVar 1) (eC (.int 0))) (eC (.int 1))) aNil))) aNil))) (gN 5)))
    (sCons (sAsg (eA mkL (aCons (eVar 1) (aCons (e2 vAdd (e2 vAdd (eSl (eVar 1) oNone (oSome (eVar 2))) (eA mkT (aCons (eVar 3) aNil))) (eSl (eVar 1) (oSome (e2 vAdd (eVar 2) (eC (.int 1)))) oNone)) (aCons (eRevT (eVar 1)) (aCons (e2 vAdd (eVar 1) (eSl (eVar 1) (oSome (eVar 2)) (oSome (e2 vAdd (eVar 2) (eC (.int 1)))))) (aCons (eA mkT aNil) (aCons (eVar 5) aNil))))))) (gN 7))
    (sRet (e2 vIx (e2 vAdd (eVar 7) (eA mkL (aCons (eA (v1 vList) (aCons (eVar 1) aNil)) (aCons (e2 vAdd (eVar 1) (eA mkT (aCons (eVar 4) aNil))) (aCons (e2 vAdd (eA mkT (aCons (eVar 4) aNil)) (eVar 1)) (aCons (eA m_law_odd (aCons (eVar 0) aNil)) aNil)))))) (eA m_law_take (aCons (eVar 0) (aCons (eC (.int 10)) aNil)))))))))))
abbrev s_law_told : Stmt := topS 29
theorem sc_law_told : FnScope ["_law_found", "_law_due"] ["_law_found", "_law_due"] (defScope s_law_told) := ⟨rfl, rfl, rfl, by decide +kernel, rfl, by decide +kernel, by decide +kernel⟩
def m_law_told : Fd := runD 2 (sRet (eAnd (eIsi "bool" (eVar 0)) (e2 vEq (eVar 0) (eVar 1))))
abbrev s_law : Stmt := topS 30
theorem sc_law : FnScope ["_law_script", "_law_stock_here", "_law_k", "_law_kind", "_law_ports", "_law_spec_here", "_law_held", "_law_thing", "_law_mate"] ["_law_script"] (defScope s_law) := ⟨rfl, rfl, rfl, by decide +kernel, rfl, by decide +kernel, by decide +kernel⟩
def m_law : Fd := runD 9 (sCons (sAsg (eA m_law_stock (aCons (eA m_law_digits (aCons (eVar 0) (aCons (eC (.int 0)) aNil))) aNil)) (gN 1))
    (sCons (sIf (tN (tV (eA m_law_told (aCons (eA m_is_stock (aCons (eVar 1) aNil)) (aCons (eC (.bl true)) aNil))))) (sRet (eC (.bl false))) sNil)
    (sCons (sFor (iSeq (eVar 1)) (gT 2 (gsCons (gN 3) (gsCons (gN 4) gsNil))) (sCons (sIf (tV (e2 vNe (eA m_ports_of (aCons (eVar 1) (aCons (eVar 3) aNil))) (eVar 4))) (sRet (eC (.bl false))) sNil)
    (sFor (iSeq (eVar 4)) (gN 5) (sCons (sAsg (eA m_mate_of (aCons (eVar 5) aNil)) (gN 8))
    (sIf (tO (tN (tV (eA m_law_spec (aCons (eVar 8) aNil)))) (tO (tV (e2 vNe (e2 vIx (eVar 8) (eC (.int 0))) (e2 vIx (eVar 5) (eC (.int 0))))) (tO (tV (e2 vEq (e2 vIx (eVar 8) (eC (.int 1))) (e2 vIx (eVar 5) (eC (.int 1))))) (tV (e2 vNe (eA m_mate_of (aCons (eVar 8) aNil)) (eVar 5)))))) (sRet (eC (.bl false))) sNil)))))
    (sCons (sFor (iRange2 (eC (.int 1)) (eA (v1 vLen) (aCons (eVar 0) aNil))) (gN 2) (sCons (sAsg (eA m_law_digits (aCons (eVar 0) (aCons (eVar 2) aNil))) (gN 6))
    (sCons (sAsg (e2 vIx (e2 vIx (e2 vIx (eVar 1) (eC (.int 0))) (eC (.int 1))) (eC (.int 0))) (gN 5))
    (sCons (sAsg (e2 vIx (eA mkL (aCons (eA m_law_text (aCons (eVar 6) aNil)) (aCons (eA m_law_bent_spec (aCons (eVar 6) (aCons (eVar 5) aNil))) (aCons (eA m_law_bent (aCons (eVar 6) (aCons (eVar 1) aNil))) (aCons (eA m_law_odd (aCons (eVar 6) aNil)) aNil))))) (eA m_law_take (aCons (eVar 6) (aCons (eC (.int 4)) aNil)))) (gN 7))
    (sCons (sIf (tO (tN (tV (eA m_law_told (aCons (eA m_is_name (aCons (eVar 7) aNil)) (aCons (eA m_law_name (aCons (eVar 7) aNil)) aNil))))) (tN (tV (eA m_law_told (aCons (eA m_is_spec (aCons (eVar 7) aNil)) (aCons (eA m_law_spec (aCons (eVar 7) aNil)) aNil)))))) (sRet (eC (.bl false))) sNil)
    (sIf (tN (tV (eA m_law_told (aCons (eA m_is_stock (aCons (eVar 7) aNil)) (aCons (eA m_law_right (aCons (eVar 7) aNil)) aNil))))) (sRet (eC (.bl false))) sNil))))))
    (sRet (eC (.bl true)))))))
/-- what the module holds -/
structure Mx (mg : Str → Option Value) : Prop where
  b_all : mg "all" = none
  b_bool : mg "bool" = none
  b_dict : mg "dict" = none
  b_isinstance : mg "isinstance" = none
  b_len : mg "len" = none
  b_list : mg "list" = none
  b_range : mg "range" = none
  b_set : mg "set" = none
  b_sorted : mg "sorted" = none
  b_str : mg "str" = none
  b_tuple : mg "tuple" = none
  c_LETTERS : ∃ t, mg "LETTERS" = some (.str (Str.ofString "abcdefghijklmnopqrstuvwxyz") t)
  c_NAME_MOST : ∃ t, mg "NAME_MOST" = some (.int 8 t)
  c_KINDS_MOST : ∃ t, mg "KINDS_MOST" = some (.int 8 t)
  c_PORTS_MOST : ∃ t, mg "PORTS_MOST" = some (.int 4 t)
section
variable {P : Program} {w : World} {K : PySem.W.Frag} {mg : Str → Option Value} {base : Heap} {T : List Addr}
theorem ok_is_tuple {f : Addr} {oc : Value} {od : Option Addr} {kV doc pm : Value} {an : Option Addr} {cdv ct : Value} {osl : Array (Option Value)} (x : Mx mg)
    (lk : K.lookup f = some ⟨oc, od, .func (PySem.W.fnOf "is_tuple" "is_tuple" (defArgs s_is_tuple) (defBody s_is_tuple) (defScope s_is_tuple) .none kV doc pm an cdv ct), osl⟩) (hcd : PySem.W.codeIn K cdv "is_tuple" = true) (hk : PySem.W.keepIn K (.ref f) = true) (hg : mg "is_tuple" = some (.ref f)) :
    Dd P w K mg base T 1 "is_tuple" 2 m_is_tuple := by
  exact dd_of (k := 0) lk hcd hk hg sc_is_tuple (fun _ _ _ _ _ _ us hl => match us, hl with | [_, _], _ => rfl) (ss_one (ss_ret (se_and (se_isi rfl x.b_isinstance rfl x.b_tuple (by decide +kernel) (se_var 0)) (se_one (se_cmp op2_eq (se_len rfl x.b_len (se_var 0)) (se_var 1))))))
theorem ok_rises {f : Addr} {oc : Value} {od : Option Addr} {kV doc pm : Value} {an : Option Addr} {ct : Value} {osl : Array (Option Value)} {c Pt : Addr} (TB : TabB base mg c Pt) (hT : Pt ∈ T) (x : Mx mg)
    (lk : K.lookup f = some ⟨oc, od, .func (PySem.W.fnOf "rises" "rises" (defArgs s_rises) (defBody s_rises) (defScope s_rises) .none kV doc pm an (.ref c) ct), osl⟩) (hcd : PySem.W.codeIn K (.ref c) "rises" = true) (hk : PySem.W.keepIn K (.ref f) = true) (hg : mg "rises" = some (.ref f)) :
    Dd P w K mg base T 2 "rises" 1 m_rises := by
  exact dd_of (k := 1) lk hcd hk hg sc_rises (fun _ _ _ _ _ _ us hl => match us, hl with | [_], _ => rfl) (ss_one (ss_ret (se_allG (own := ["at"]) (fr := ["things"]) (js := [0]) (N0 := ["things"]) (sc0 := (defScope s_rises)) rfl rfl rfl x.b_all rfl rfl TB hT (by decide +kernel) (si_range1 rfl x.b_range (se_bin op2_sub (se_len rfl x.b_len (se_var 0)) se_int)) (sg_name 0 (show (["at", "things"] : List Str).Nodup by decide +kernel)) sts_nil (se_cmp op2_lt (se_ix (se_var 1) (se_var 0)) (se_ix (se_var 1) (se_bin op2_add (se_var 0) se_int))))))
theorem ok_is_spelled {f : Addr} {oc : Value} {od : Option Addr} {kV doc pm : Value} {an : Option Addr} {ct : Value} {osl : Array (Option Value)} {c Pt : Addr} (TB : TabB base mg c Pt) (hT : Pt ∈ T) (x : Mx mg)
    (lk : K.lookup f = some ⟨oc, od, .func (PySem.W.fnOf "is_spelled" "is_spelled" (defArgs s_is_spelled) (defBody s_is_spelled) (defScope s_is_spelled) .none kV doc pm an (.ref c) ct), osl⟩) (hcd : PySem.W.codeIn K (.ref c) "is_spelled" = true) (hk : PySem.W.keepIn K (.ref f) = true) (hg : mg "is_spelled" = some (.ref f)) :
    Dd P w K mg base T 2 "is_spelled" 3 m_is_spelled := by
  exact dd_of (k := 1) lk hcd hk hg sc_is_spelled (fun _ _ _ _ _ _ us hl => match us, hl with | [_, _, _], _ => rfl) (ss_one (ss_ret (se_and (se_chain op2_le op2_le se_int (se_len rfl x.b_len (se_var 0)) (se_var 2)) (se_one (se_allG (own := ["sign"]) (fr := ["signs"]) (js := [1]) (N0 := ["text", "signs", "most"]) (sc0 := (defScope s_is_spelled)) rfl rfl rfl x.b_all rfl rfl TB hT (by decide +kernel) (si_seq (se_var 0)) (sg_name 0 (show (["sign", "signs"] : List Str).Nodup by decide +kernel)) sts_nil (se_cmp op2_in (se_var 0) (se_var 1)))))))
theorem ok_is_name {f : Addr} {oc : Value} {od : Option Addr} {kV doc pm : Value} {an : Option Addr} {cdv ct : Value} {osl : Array (Option Value)} (x : Mx mg)
    (lk : K.lookup f = some ⟨oc, od, .func (PySem.W.fnOf "is_name" "is_name" (defArgs s_is_name) (defBody s_is_name) (defScope s_is_name) .none kV doc pm an cdv ct), osl⟩) (hcd : PySem.W.codeIn K cdv "is_name" = true) (hk : PySem.W.keepIn K (.ref f) = true) (hg : mg "is_name" = some (.ref f)) (D_is_spelled : Dd P w K mg base T 2 "is_spelled" 3 m_is_spelled) :
    Dd P w K mg base T 3 "is_name" 1 m_is_name := by
  obtain ⟨_, hc_LETTERS⟩ := x.c_LETTERS
  obtain ⟨_, hc_NAME_MOST⟩ := x.c_NAME_MOST
  exact dd_of (k := 2) lk hcd hk hg sc_is_name (fun _ _ _ _ _ _ us hl => match us, hl with | [_], _ => rfl) (ss_one (ss_ret (se_and (se_isi rfl x.b_isinstance rfl x.b_str (by decide +kernel) (se_var 0)) (se_one (se_call D_is_spelled (Nat.le_of_ble_eq_true rfl) rfl (sa_cons (se_var 0) (sa_cons (se_globS rfl hc_LETTERS ⟨_, rfl⟩) (sa_cons (se_globI rfl hc_NAME_MOST ⟨_, rfl⟩) sa_nil))))))))
theorem ok_is_spec {f : Addr} {oc : Value} {od : Option Addr} {kV doc pm : Value} {an : Option Addr} {cdv ct : Value} {osl : Array (Option Value)} (x : Mx mg)
    (lk : K.lookup f = some ⟨oc, od, .func (PySem.W.fnOf "is_spec" "is_spec" (defArgs s_is_spec) (defBody s_is_spec) (defScope s_is_spec) .none kV doc pm an cdv ct), osl⟩) (hcd : PySem.W.codeIn K cdv "is_spec" = true) (hk : PySem.W.keepIn K (.ref f) = true) (hg : mg "is_spec" = some (.ref f)) (D_is_tuple : Dd P w K mg base T 1 "is_tuple" 2 m_is_tuple) (D_is_name : Dd P w K mg base T 3 "is_name" 1 m_is_name) :
    Dd P w K mg base T 4 "is_spec" 1 m_is_spec := by
  exact dd_of (k := 3) lk hcd hk hg sc_is_spec (fun _ _ _ _ _ _ us hl => match us, hl with | [_], _ => rfl) (ss_one (ss_ret (se_and (se_call D_is_tuple (Nat.le_of_ble_eq_true rfl) rfl (sa_cons (se_var 0) (sa_cons se_int sa_nil))) (se_and (se_call D_is_name (Nat.le_of_ble_eq_true rfl) rfl (sa_cons (se_ix (se_var 0) se_int) sa_nil)) (se_one (se_cmp op2_in (se_ix (se_var 0) se_int) (se_tup (sa_cons se_str (sa_cons se_str sa_nil)))))))))
theorem ok_are_specs {f : Addr} {oc : Value} {od : Option Addr} {kV doc pm : Value} {an : Option Addr} {ct : Value} {osl : Array (Option Value)} {c Pt : Addr} (TB : TabB base mg c Pt) (hT : Pt ∈ T) (x : Mx mg)
    (lk : K.lookup f = some ⟨oc, od, .func (PySem.W.fnOf "are_specs" "are_specs" (defArgs s_are_specs) (defBody s_are_specs) (defScope s_are_specs) .none kV doc pm an (.ref c) ct), osl⟩) (hcd : PySem.W.codeIn K (.ref c) "are_specs" = true) (hk : PySem.W.keepIn K (.ref f) = true) (hg : mg "are_specs" = some (.ref f)) (D_is_spec : Dd P w K mg base T 4 "is_spec" 1 m_is_spec) :
    Dd P w K mg base T 6 "are_specs" 1 m_are_specs := by
  exact dd_of (k := 5) lk hcd hk hg sc_are_specs (fun _ _ _ _ _ _ us hl => match us, hl with | [_], _ => rfl) (ss_one (ss_ret (se_and (se_isi rfl x.b_isinstance rfl x.b_tuple (by decide +kernel) (se_var 0)) (se_one (se_allG (own := ["spec"]) (fr := []) (js := []) (N0 := ["thing"]) (sc0 := (defScope s_are_specs)) rfl rfl rfl x.b_all rfl rfl TB hT (by decide +kernel) (si_seq (se_var 0)) (sg_name 0 (show (["spec"] : List Str).Nodup by decide +kernel)) sts_nil (se_call D_is_spec (Nat.le_of_ble_eq_true rfl) rfl (sa_cons (se_var 0) sa_nil)))))))
theorem ok_is_entry {f : Addr} {oc : Value} {od : Option Addr} {kV doc pm : Value} {an : Option Addr} {cdv ct : Value} {osl : Array (Option Value)} (x : Mx mg)
    (lk : K.lookup f = some ⟨oc, od, .func (PySem.W.fnOf "is_entry" "is_entry" (defArgs s_is_entry) (defBody s_is_entry) (defScope s_is_entry) .none kV doc pm an cdv ct), osl⟩) (hcd : PySem.W.codeIn K cdv "is_entry" = true) (hk : PySem.W.keepIn K (.ref f) = true) (hg : mg "is_entry" = some (.ref f)) (D_is_tuple : Dd P w K mg base T 1 "is_tuple" 2 m_is_tuple) (D_is_name : Dd P w K mg base T 3 "is_name" 1 m_is_name) (D_are_specs : Dd P w K mg base T 6 "are_specs" 1 m_are_specs) :
    Dd P w K mg base T 7 "is_entry" 1 m_is_entry := by
  obtain ⟨_, hc_PORTS_MOST⟩ := x.c_PORTS_MOST
  exact dd_of (k := 6) lk hcd hk hg sc_is_entry (fun _ _ _ _ _ _ us hl => match us, hl with | [_], _ => rfl) (ss_cons (ss_if (st_not (st_val (se_call D_is_tuple (Nat.le_of_ble_eq_true rfl) rfl (sa_cons (se_var 0) (sa_cons se_int sa_nil))))) (ss_one (ss_ret se_bl)) ss_nil)
    (ss_cons (ss_asg (se_var 0) (sg_tup (sgs_cons (sg_name 1 sc_is_entry.nd) (sgs_cons (sg_name 2 sc_is_entry.nd) sgs_nil))))
    (ss_one (ss_ret (se_and (se_call D_is_name (Nat.le_of_ble_eq_true rfl) rfl (sa_cons (se_var 1) sa_nil)) (se_and (se_call D_are_specs (Nat.le_of_ble_eq_true rfl) rfl (sa_cons (se_var 2) sa_nil)) (se_one (se_chain op2_le op2_le se_int (se_len rfl x.b_len (se_var 2)) (se_globI rfl hc_PORTS_MOST ⟨_, rfl⟩)))))))))
theorem ok_is_stock {f : Addr} {oc : Value} {od : Option Addr} {kV doc pm : Value} {an : Option Addr} {ct : Value} {osl : Array (Option Value)} {c Pt : Addr} (TB : TabB base mg c Pt) (hT : Pt ∈ T) (x : Mx mg)
    (lk : K.lookup f = some ⟨oc, od, .func (PySem.W.fnOf "is_stock" "is_stock" (defArgs s_is_stock) (defBody s_is_stock) (defScope s_is_stock) .none kV doc pm an (.ref c) ct), osl⟩) (hcd : PySem.W.codeIn K (.ref c) "is_stock" = true) (hk : PySem.W.keepIn K (.ref f) = true) (hg : mg "is_stock" = some (.ref f)) (D_rises : Dd P w K mg base T 2 "rises" 1 m_rises) (D_is_entry : Dd P w K mg base T 7 "is_entry" 1 m_is_entry) :
    Dd P w K mg base T 9 "is_stock" 1 m_is_stock := by
  obtain ⟨_, hc_KINDS_MOST⟩ := x.c_KINDS_MOST
  exact dd_of (k := 8) lk hcd hk hg sc_is_stock (fun _ _ _ _ _ _ us hl => match us, hl with | [_], _ => rfl) (ss_cons (ss_if (SW.st (sw_or (st_not (st_val (se_isi rfl x.b_isinstance rfl x.b_tuple (by decide +kernel) (se_var 0)))) (sw_or1 (st_not (st_chain op2_le op2_le se_int (se_len rfl x.b_len (se_var 0)) (se_globI rfl hc_KINDS_MOST ⟨_, rfl⟩)))))) (ss_one (ss_ret se_bl)) ss_nil)
    (ss_cons (ss_if (st_not (st_val (se_allG (own := ["entry"]) (fr := []) (js := []) (N0 := ["thing", "entry"]) (sc0 := (defScope s_is_stock)) rfl rfl rfl x.b_all rfl rfl TB hT (by decide +kernel) (si_seq (se_var 0)) (sg_name 0 (show (["entry"] : List Str).Nodup by decide +kernel)) sts_nil (se_call D_is_entry (Nat.le_of_ble_eq_true rfl) rfl (sa_cons (se_var 0) sa_nil))))) (ss_one (ss_ret se_bl)) ss_nil)
    (ss_one (ss_ret (se_call D_rises (Nat.le_of_ble_eq_true rfl) rfl (sa_cons (se_lc (own := [("entry", 1)]) (N0 := ["thing", "entry"]) (sc0 := (defScope s_is_stock)) sc_is_stock.nd rfl rfl (si_seq (se_var 0)) (by decide +kernel) (sg_name 1 sc_is_stock.nd) sts_nil (se_ix (se_var 1) se_int)) sa_nil))))))
theorem ok_mate_of {f : Addr} {oc : Value} {od : Option Addr} {kV doc pm : Value} {an : Option Addr} {cdv ct : Value} {osl : Array (Option Value)} (x : Mx mg)
    (lk : K.lookup f = some ⟨oc, od, .func (PySem.W.fnOf "mate_of" "mate_of" (defArgs s_mate_of) (defBody s_mate_of) (defScope s_mate_of) .none kV doc pm an cdv ct), osl⟩) (hcd : PySem.W.codeIn K cdv "mate_of" = true) (hk : PySem.W.keepIn K (.ref f) = true) (hg : mg "mate_of" = some (.ref f)) :
    Dd P w K mg base T 1 "mate_of" 1 m_mate_of := by
  exact dd_of (k := 0) lk hcd hk hg sc_mate_of (fun _ _ _ _ _ _ us hl => match us, hl with | [_], _ => rfl) (ss_cons (ss_asg (se_var 0) (sg_tup (sgs_cons (sg_name 1 sc_mate_of.nd) (sgs_cons (sg_name 2 sc_mate_of.nd) sgs_nil))))
    (ss_one (ss_ret (se_tup (sa_cons (se_var 1) (sa_cons (se_if (st_cmp op2_eq (se_var 2) se_str) se_str se_str) sa_nil))))))
theorem ok_ports_of {f : Addr} {oc : Value} {od : Option Addr} {kV doc pm : Value} {an : Option Addr} {cdv ct : Value} {osl : Array (Option Value)} (x : Mx mg)
    (lk : K.lookup f = some ⟨oc, od, .func (PySem.W.fnOf "ports_of" "ports_of" (defArgs s_ports_of) (defBody s_ports_of) (defScope s_ports_of) .none kV doc pm an cdv ct), osl⟩) (hcd : PySem.W.codeIn K cdv "ports_of" = true) (hk : PySem.W.keepIn K (.ref f) = true) (hg : mg "ports_of" = some (.ref f)) :
    Dd P w K mg base T 1 "ports_of" 2 m_ports_of := by
  exact dd_of (k := 0) lk hcd hk hg sc_ports_of (fun _ _ _ _ _ _ us hl => match us, hl with | [_, _], _ => rfl) (ss_one (ss_ret (se_dget (se_dict rfl x.b_dict (se_var 0)) (se_var 1))))
theorem ok_law_digits {f : Addr} {oc : Value} {od : Option Addr} {kV doc pm : Value} {an : Option Addr} {cdv ct : Value} {osl : Array (Option Value)} (x : Mx mg)
    (lk : K.lookup f = some ⟨oc, od, .func (PySem.W.fnOf "_law_digits" "_law_digits" (defArgs s_law_digits) (defBody s_law_digits) (defScope s_law_digits) .none kV doc pm an cdv ct), osl⟩) (hcd : PySem.W.codeIn K cdv "_law_digits" = true) (hk : PySem.W.keepIn K (.ref f) = true) (hg : mg "_law_digits" = some (.ref f)) :
    Dd P w K mg base T 1 "_law_digits" 2 m_law_digits := by
  exact dd_of (k := 0) lk hcd hk hg sc_law_digits (fun _ _ _ _ _ _ us hl => match us, hl with | [_, _], _ => rfl) (ss_cons (ss_set 2 sc_law_digits.nd (se_if (st_cmp op2_lt (se_var 1) (se_len rfl x.b_len (se_var 0))) (se_ix (se_var 0) (se_var 1)) se_int))
    (ss_cons (ss_if (st_cmp op2_ge (se_var 2) (se_bin op2_pow se_int se_int)) (ss_one (ss_ret (se_lst (sa_cons (se_bin op2_sub (se_var 2) (se_bin op2_pow se_int se_int)) sa_nil)))) ss_nil)
    (ss_cons (ss_set 3 sc_law_digits.nd se_int)
    (ss_cons (ss_set 4 sc_law_digits.nd (se_bin op2_mod (se_bin op2_add (se_bin op2_add (se_bin op2_mul (se_var 2) se_int) (se_bin op2_mul se_int (se_var 1))) se_int) se_int))
    (ss_cons (ss_for (si_range1 rfl x.b_range se_int) (sg_name 5 sc_law_digits.nd) (ss_cons (ss_set 4 sc_law_digits.nd (se_bin op2_mod (se_bin op2_add (se_bin op2_add (se_bin op2_mul (se_var 4) (se_var 4)) (se_bin op2_mul se_int (se_var 4))) (se_var 5)) se_int))
    (ss_one (ss_set 3 sc_law_digits.nd (se_bin op2_add (se_bin op2_mul (se_var 3) se_int) (se_bin op2_mod (se_bin op2_mul (se_var 4) se_int) se_int))))))
    (ss_one (ss_ret (se_lst (sa_cons (se_var 3) sa_nil)))))))))
theorem ok_law_take {f : Addr} {oc : Value} {od : Option Addr} {kV doc pm : Value} {an : Option Addr} {cdv ct : Value} {osl : Array (Option Value)} (x : Mx mg)
    (lk : K.lookup f = some ⟨oc, od, .func (PySem.W.fnOf "_law_take" "_law_take" (defArgs s_law_take) (defBody s_law_take) (defScope s_law_take) .none kV doc pm an cdv ct), osl⟩) (hcd : PySem.W.codeIn K cdv "_law_take" = true) (hk : PySem.W.keepIn K (.ref f) = true) (hg : mg "_law_take" = some (.ref f)) :
    Dd P w K mg base T 1 "_law_take" 2 m_law_take := by
  exact dd_of (k := 0) lk hcd hk hg sc_law_take (fun _ _ _ _ _ _ us hl => match us, hl with | [_, _], _ => rfl) (ss_cons (ss_set 2 sc_law_take.nd (se_bin op2_mod (se_ix (se_var 0) se_int) (se_var 1)))
    (ss_cons (ss_asg (se_bin op2_div (se_ix (se_var 0) se_int) (se_var 1)) (sg_sub (se_var 0) se_int))
    (ss_one (ss_ret (se_var 2)))))
theorem ok_law_words {f : Addr} {oc : Value} {od : Option Addr} {kV doc pm : Value} {an : Option Addr} {cdv ct : Value} {osl : Array (Option Value)} (x : Mx mg)
    (lk : K.lookup f = some ⟨oc, od, .func (PySem.W.fnOf "_law_words" "_law_words" (defArgs s_law_words) (defBody s_law_words) (defScope s_law_words) .none kV doc pm an cdv ct), osl⟩) (hcd : PySem.W.codeIn K cdv "_law_words" = true) (hk : PySem.W.keepIn K (.ref f) = true) (hg : mg "_law_words" = some (.ref f)) (D_law_take : Dd P w K mg base T 1 "_law_take" 2 m_law_take) :
    Dd P w K mg base T 2 "_law_words" 2 m_law_words := by
  exact dd_of (k := 1) lk hcd hk hg sc_law_words (fun _ _ _ _ _ _ us hl => match us, hl with | [_, _], _ => rfl) (ss_cons (ss_set 2 sc_law_words.nd se_str)
    (ss_cons (ss_set 3 sc_law_words.nd (se_join se_str (se_lc (own := [("_law_k", 8)]) (N0 := ["_law_held", "_law_many", "_law_letters", "_law_word", "_law_at", "_law_other", "_law_some", "_law_start", "_law_k"]) (sc0 := (defScope s_law_words)) sc_law_words.nd rfl rfl (si_range1 rfl x.b_range (se_bin op2_add se_int (se_call D_law_take (Nat.le_of_ble_eq_true rfl) rfl (sa_cons (se_var 0) (sa_cons se_int sa_nil))))) (by decide +kernel) (sg_name 8 sc_law_words.nd) sts_nil (se_ix (se_var 2) (se_call D_law_take (Nat.le_of_ble_eq_true rfl) rfl (sa_cons (se_var 0) (sa_cons se_int sa_nil)))))))
    (ss_cons (ss_set 4 sc_law_words.nd (se_call D_law_take (Nat.le_of_ble_eq_true rfl) rfl (sa_cons (se_var 0) (sa_cons (se_len rfl x.b_len (se_var 3)) sa_nil))))
    (ss_cons (ss_set 5 sc_law_words.nd (se_ix (se_var 2) (se_bin op2_mod (se_bin op2_add (se_bin op2_add (se_sindex (se_var 2) (se_ix (se_var 3) (se_var 4))) se_int) (se_call D_law_take (Nat.le_of_ble_eq_true rfl) rfl (sa_cons (se_var 0) (sa_cons se_int sa_nil)))) se_int)))
    (ss_cons (ss_set 6 sc_law_words.nd (se_lst (sa_cons (se_var 3) (sa_cons (se_bin op2_add (se_bin op2_add (se_slice (se_var 3) so_none (so_some (se_var 4))) (se_var 5)) (se_slice (se_var 3) (so_some (se_bin op2_add (se_var 4) se_int)) so_none)) (sa_cons (se_bin op2_add (se_var 3) (se_var 5)) (sa_cons (se_slice (se_var 3) so_none (so_some (se_neg se_int))) sa_nil))))))
    (ss_cons (ss_set 7 sc_law_words.nd (se_call D_law_take (Nat.le_of_ble_eq_true rfl) rfl (sa_cons (se_var 0) (sa_cons se_int sa_nil))))
    (ss_one (ss_ret (se_lc (own := [("_law_k", 8)]) (N0 := ["_law_held", "_law_many", "_law_letters", "_law_word", "_law_at", "_law_other", "_law_some", "_law_start", "_law_k"]) (sc0 := (defScope s_law_words)) sc_law_words.nd rfl rfl (si_range1 rfl x.b_range (se_var 1)) (by decide +kernel) (sg_name 8 sc_law_words.nd) sts_nil (se_ix (se_var 6) (se_bin op2_mod (se_bin op2_add (se_var 7) (se_var 8)) se_int)))))))))))
theorem ok_law_stock {f : Addr} {oc : Value} {od : Option Addr} {kV doc pm : Value} {an : Option Addr} {cdv ct : Value} {osl : Array (Option Value)} (x : Mx mg)
    (lk : K.lookup f = some ⟨oc, od, .func (PySem.W.fnOf "_law_stock" "_law_stock" (defArgs s_law_stock) (defBody s_law_stock) (defScope s_law_stock) .none kV doc pm an cdv ct), osl⟩) (hcd : PySem.W.codeIn K cdv "_law_stock" = true) (hk : PySem.W.keepIn K (.ref f) = true) (hg : mg "_law_stock" = some (.ref f)) (D_law_take : Dd P w K mg base T 1 "_law_take" 2 m_law_take) (D_law_words : Dd P w K mg base T 2 "_law_words" 2 m_law_words) :
    Dd P w K mg base T 3 "_law_stock" 1 m_law_stock := by
  exact dd_of (k := 2) lk hcd hk hg sc_law_stock (fun _ _ _ _ _ _ us hl => match us, hl with | [_], _ => rfl) (ss_cons (ss_set 1 sc_law_stock.nd (se_lst (sa_cons se_str (sa_cons se_str (sa_cons se_str (sa_cons se_str (sa_cons se_str (sa_cons se_str (sa_cons se_str (sa_cons se_str sa_nil))))))))))
    (ss_cons (ss_set 2 sc_law_stock.nd (se_call D_law_take (Nat.le_of_ble_eq_true rfl) rfl (sa_cons (se_var 0) (sa_cons se_int sa_nil))))
    (ss_cons (ss_setLc (i := 3) (own := [("_law_k", 6)]) (N0 := ["_law_held", "_law_pool", "_law_start", "_law_kinds", "_law_sorts", "_law_rows", "_law_k", "_law_ports", "_law_p"]) (sc0 := (defScope s_law_stock)) sc_law_stock.nd rfl rfl rfl (by decide +kernel) rfl rfl rfl (si_range1 rfl x.b_range se_int) (by decide +kernel) (sg_name 6 sc_law_stock.nd) sts_nil (se_ix (se_var 1) (se_bin op2_mod (se_bin op2_add (se_var 2) (se_bin op2_mul se_int (se_var 6))) se_int)))
    (ss_cons (ss_if (st_cmp op2_eq (se_call D_law_take (Nat.le_of_ble_eq_true rfl) rfl (sa_cons (se_var 0) (sa_cons se_int sa_nil))) se_int) (ss_one (ss_set 3 sc_law_stock.nd (se_call D_law_words (Nat.le_of_ble_eq_true rfl) rfl (sa_cons (se_var 0) (sa_cons se_int sa_nil))))) ss_nil)
    (ss_cons (ss_set 4 sc_law_stock.nd (se_call D_law_words (Nat.le_of_ble_eq_true rfl) rfl (sa_cons (se_var 0) (sa_cons (se_bin op2_add se_int (se_call D_law_take (Nat.le_of_ble_eq_true rfl) rfl (sa_cons (se_var 0) (sa_cons se_int sa_nil)))) sa_nil))))
    (ss_cons (ss_set 5 sc_law_stock.nd (se_lst sa_nil))
    (ss_cons (ss_for (si_range1 rfl x.b_range (se_bin op2_add se_int (se_call D_law_take (Nat.le_of_ble_eq_true rfl) rfl (sa_cons (se_var 0) (sa_cons se_int sa_nil))))) (sg_name 6 sc_law_stock.nd) (ss_cons (ss_set 7 sc_law_stock.nd (se_lst sa_nil))
    (ss_cons (ss_for (si_range1 rfl x.b_range (se_bin op2_add se_int (se_call D_law_take (Nat.le_of_ble_eq_true rfl) rfl (sa_cons (se_var 0) (sa_cons se_int sa_nil))))) (sg_name 8 sc_law_stock.nd) (ss_one (ss_expr (se_append (se_var 7) (se_tup (sa_cons (se_ix (se_var 4) (se_call D_law_take (Nat.le_of_ble_eq_true rfl) rfl (sa_cons (se_var 0) (sa_cons (se_len rfl x.b_len (se_var 4)) sa_nil)))) (sa_cons (se_ix se_str (se_call D_law_take (Nat.le_of_ble_eq_true rfl) rfl (sa_cons (se_var 0) (sa_cons se_int sa_nil)))) sa_nil)))))))
    (ss_cons (ss_if (SW.st (sw_and (st_cmp op2_ne (se_var 5) (se_lst sa_nil)) (sw_and1 (st_cmp op2_eq (se_call D_law_take (Nat.le_of_ble_eq_true rfl) rfl (sa_cons (se_var 0) (sa_cons se_int sa_nil))) se_int)))) (ss_one (ss_set 7 sc_law_stock.nd (se_ix (se_ix (se_var 5) se_int) se_int))) ss_nil)
    (ss_one (ss_expr (se_append (se_var 5) (se_tup (sa_cons (se_ix (se_var 3) (se_var 6)) (sa_cons (se_tuple rfl x.b_tuple (se_var 7)) sa_nil))))))))))
    (ss_one (ss_ret (se_tuple rfl x.b_tuple (se_sorted rfl x.b_sorted (se_var 5))))))))))))
theorem ok_law_name {f : Addr} {oc : Value} {od : Option Addr} {kV doc pm : Value} {an : Option Addr} {cdv ct : Value} {osl : Array (Option Value)} (x : Mx mg)
    (lk : K.lookup f = some ⟨oc, od, .func (PySem.W.fnOf "_law_name" "_law_name" (defArgs s_law_name) (defBody s_law_name) (defScope s_law_name) .none kV doc pm an cdv ct), osl⟩) (hcd : PySem.W.codeIn K cdv "_law_name" = true) (hk : PySem.W.keepIn K (.ref f) = true) (hg : mg "_law_name" = some (.ref f)) :
    Dd P w K mg base T 1 "_law_name" 1 m_law_name := by
  exact dd_of (k := 0) lk hcd hk hg sc_law_name (fun _ _ _ _ _ _ us hl => match us, hl with | [_], _ => rfl) (ss_cons (ss_if (SW.st (sw_or (st_not (st_val (se_isi rfl x.b_isinstance rfl x.b_str (by decide +kernel) (se_var 0)))) (sw_or (st_cmp op2_eq (se_len rfl x.b_len (se_var 0)) se_int) (sw_or1 (st_cmp op2_gt (se_len rfl x.b_len (se_var 0)) se_int))))) (ss_one (ss_ret se_bl)) ss_nil)
    (ss_one (ss_ret (se_cmp op2_eq (se_len rfl x.b_len (se_lc (own := [("_law_sign", 1)]) (N0 := ["_law_thing", "_law_sign"]) (sc0 := (defScope s_law_name)) sc_law_name.nd rfl rfl (si_seq (se_var 0)) (by decide +kernel) (sg_name 1 sc_law_name.nd) (sts_one (st_cmp op2_notIn (se_var 1) se_str)) (se_var 1))) se_int))))
theorem ok_law_spec {f : Addr} {oc : Value} {od : Option Addr} {kV doc pm : Value} {an : Option Addr} {cdv ct : Value} {osl : Array (Option Value)} (x : Mx mg)
    (lk : K.lookup f = some ⟨oc, od, .func (PySem.W.fnOf "_law_spec" "_law_spec" (defArgs s_law_spec) (defBody s_law_spec) (defScope s_law_spec) .none kV doc pm an cdv ct), osl⟩) (hcd : PySem.W.codeIn K cdv "_law_spec" = true) (hk : PySem.W.keepIn K (.ref f) = true) (hg : mg "_law_spec" = some (.ref f)) (D_law_name : Dd P w K mg base T 1 "_law_name" 1 m_law_name) :
    Dd P w K mg base T 2 "_law_spec" 1 m_law_spec := by
  exact dd_of (k := 1) lk hcd hk hg sc_law_spec (fun _ _ _ _ _ _ us hl => match us, hl with | [_], _ => rfl) (ss_cons (ss_if (SW.st (sw_or (st_not (st_val (se_isi rfl x.b_isinstance rfl x.b_tuple (by decide +kernel) (se_var 0)))) (sw_or (st_cmp op2_ne (se_len rfl x.b_len (se_var 0)) se_int) (sw_or1 (st_not (st_val (se_call D_law_name (Nat.le_of_ble_eq_true rfl) rfl (sa_cons (se_ix (se_var 0) se_int) sa_nil)))))))) (ss_one (ss_ret se_bl)) ss_nil)
    (ss_one (ss_ret (se_or (se_cmp op2_eq (se_ix (se_var 0) se_int) se_str) (se_one (se_cmp op2_eq (se_ix (se_var 0) se_int) se_str))))))
theorem ok_law_right {f : Addr} {oc : Value} {od : Option Addr} {kV doc pm : Value} {an : Option Addr} {cdv ct : Value} {osl : Array (Option Value)} (x : Mx mg)
    (lk : K.lookup f = some ⟨oc, od, .func (PySem.W.fnOf "_law_right" "_law_right" (defArgs s_law_right) (defBody s_law_right) (defScope s_law_right) .none kV doc pm an cdv ct), osl⟩) (hcd : PySem.W.codeIn K cdv "_law_right" = true) (hk : PySem.W.keepIn K (.ref f) = true) (hg : mg "_law_right" = some (.ref f)) (D_law_name : Dd P w K mg base T 1 "_law_name" 1 m_law_name) (D_law_spec : Dd P w K mg base T 2 "_law_spec" 1 m_law_spec) :
    Dd P w K mg base T 3 "_law_right" 1 m_law_right := by
  exact dd_of (k := 2) lk hcd hk hg sc_law_right (fun _ _ _ _ _ _ us hl => match us, hl with | [_], _ => rfl) (ss_cons (ss_if (SW.st (sw_or (st_not (st_val (se_isi rfl x.b_isinstance rfl x.b_tuple (by decide +kernel) (se_var 0)))) (sw_or (st_cmp op2_eq (se_len rfl x.b_len (se_var 0)) se_int) (sw_or1 (st_cmp op2_gt (se_len rfl x.b_len (se_var 0)) se_int))))) (ss_one (ss_ret se_bl)) ss_nil)
    (ss_cons (ss_for (si_seq (se_var 0)) (sg_name 1 sc_law_right.nd) (ss_cons (ss_if (SW.st (sw_or (st_not (st_val (se_isi rfl x.b_isinstance rfl x.b_tuple (by decide +kernel) (se_var 1)))) (sw_or (st_cmp op2_ne (se_len rfl x.b_len (se_var 1)) se_int) (sw_or (st_not (st_val (se_call D_law_name (Nat.le_of_ble_eq_true rfl) rfl (sa_cons (se_ix (se_var 1) se_int) sa_nil)))) (sw_or1 (st_not (st_val (se_isi rfl x.b_isinstance rfl x.b_tuple (by decide +kernel) (se_ix (se_var 1) se_int))))))))) (ss_one (ss_ret se_bl)) ss_nil)
    (ss_one (ss_if (SW.st (sw_or (st_not (st_chain op2_le op2_le se_int (se_len rfl x.b_len (se_ix (se_var 1) se_int)) se_int)) (sw_or1 (st_not (st_val (se_allL rfl x.b_all (se_lc (own := [("_law_spec_here", 3)]) (N0 := ["_law_thing", "_law_row", "_law_kinds", "_law_spec_here"]) (sc0 := (defScope s_law_right)) sc_law_right.nd rfl rfl (si_seq (se_ix (se_var 1) se_int)) (by decide +kernel) (sg_name 3 sc_law_right.nd) sts_nil (se_call D_law_spec (Nat.le_of_ble_eq_true rfl) rfl (sa_cons (se_var 3) sa_nil))))))))) (ss_one (ss_ret se_bl)) ss_nil))))
    (ss_cons (ss_setLc (i := 2) (own := [("_law_row", 1)]) (N0 := ["_law_thing", "_law_row", "_law_kinds", "_law_spec_here"]) (sc0 := (defScope s_law_right)) sc_law_right.nd rfl rfl rfl (by decide +kernel) rfl rfl rfl (si_seq (se_var 0)) (by decide +kernel) (sg_name 1 sc_law_right.nd) sts_nil (se_ix (se_var 1) se_int))
    (ss_one (ss_ret (se_and (se_cmp op2_eq (se_var 2) (se_sorted rfl x.b_sorted (se_var 2))) (se_one (se_cmp op2_eq (se_lenSet rfl x.b_len rfl x.b_set (se_var 2)) (se_len rfl x.b_len (se_var 2))))))))))
theorem ok_law_text {f : Addr} {oc : Value} {od : Option Addr} {kV doc pm : Value} {an : Option Addr} {cdv ct : Value} {osl : Array (Option Value)} (x : Mx mg)
    (lk : K.lookup f = some ⟨oc, od, .func (PySem.W.fnOf "_law_text" "_law_text" (defArgs s_law_text) (defBody s_law_text) (defScope s_law_text) .none kV doc pm an cdv ct), osl⟩) (hcd : PySem.W.codeIn K cdv "_law_text" = true) (hk : PySem.W.keepIn K (.ref f) = true) (hg : mg "_law_text" = some (.ref f)) (D_law_take : Dd P w K mg base T 1 "_law_take" 2 m_law_take) :
    Dd P w K mg base T 2 "_law_text" 1 m_law_text := by
  exact dd_of (k := 1) lk hcd hk hg sc_law_text (fun _ _ _ _ _ _ us hl => match us, hl with | [_], _ => rfl) (ss_cons (ss_set 1 sc_law_text.nd (se_ix (se_lst (sa_cons se_str (sa_cons se_str sa_nil))) (se_call D_law_take (Nat.le_of_ble_eq_true rfl) rfl (sa_cons (se_var 0) (sa_cons se_int sa_nil)))))
    (ss_one (ss_ret (se_join se_str (se_lc (own := [("_law_k", 2)]) (N0 := ["_law_held", "_law_signs", "_law_k"]) (sc0 := (defScope s_law_text)) sc_law_text.nd rfl rfl (si_range1 rfl x.b_range (se_call D_law_take (Nat.le_of_ble_eq_true rfl) rfl (sa_cons (se_var 0) (sa_cons se_int sa_nil)))) (by decide +kernel) (sg_name 2 sc_law_text.nd) sts_nil (se_ix (se_var 1) (se_call D_law_take (Nat.le_of_ble_eq_true rfl) rfl (sa_cons (se_var 0) (sa_cons (se_len rfl x.b_len (se_var 1)) sa_nil)))))))))
theorem ok_law_odd {f : Addr} {oc : Value} {od : Option Addr} {kV doc pm : Value} {an : Option Addr} {cdv ct : Value} {osl : Array (Option Value)} (x : Mx mg)
    (lk : K.lookup f = some ⟨oc, od, .func (PySem.W.fnOf "_law_odd" "_law_odd" (defArgs s_law_odd) (defBody s_law_odd) (defScope s_law_odd) .none kV doc pm an cdv ct), osl⟩) (hcd : PySem.W.codeIn K cdv "_law_odd" = true) (hk : PySem.W.keepIn K (.ref f) = true) (hg : mg "_law_odd" = some (.ref f)) (D_law_take : Dd P w K mg base T 1 "_law_take" 2 m_law_take) :
    Dd P w K mg base T 2 "_law_odd" 1 m_law_odd := by
  exact dd_of (k := 1) lk hcd hk hg sc_law_odd (fun _ _ _ _ _ _ us hl => match us, hl with | [_], _ => rfl) (ss_one (ss_ret (se_ix (se_lst (sa_cons se_int (sa_cons se_int (sa_cons se_bl (sa_cons se_bl (sa_cons se_non (sa_cons se_str (sa_cons (se_tup sa_nil) (sa_cons (se_lst sa_nil) (sa_cons se_str (sa_cons (se_tup (sa_cons se_str (sa_cons se_str sa_nil))) (sa_cons (se_lst (sa_cons se_str (sa_cons se_str sa_nil))) (sa_cons (se_tup (sa_cons (se_tup (sa_cons se_str (sa_cons (se_tup (sa_cons (se_tup (sa_cons se_str (sa_cons se_str sa_nil))) sa_nil)) sa_nil))) sa_nil)) sa_nil))))))))))))) (se_call D_law_take (Nat.le_of_ble_eq_true rfl) rfl (sa_cons (se_var 0) (sa_cons se_int sa_nil))))))
theorem ok_law_bent_spec {f : Addr} {oc : Value} {od : Option Addr} {kV doc pm : Value} {an : Option Addr} {cdv ct : Value} {osl : Array (Option Value)} (x : Mx mg)
    (lk : K.lookup f = some ⟨oc, od, .func (PySem.W.fnOf "_law_bent_spec" "_law_bent_spec" (defArgs s_law_bent_spec) (defBody s_law_bent_spec) (defScope s_law_bent_spec) .none kV doc pm an cdv ct), osl⟩) (hcd : PySem.W.codeIn K cdv "_law_bent_spec" = true) (hk : PySem.W.keepIn K (.ref f) = true) (hg : mg "_law_bent_spec" = some (.ref f)) (D_law_take : Dd P w K mg base T 1 "_law_take" 2 m_law_take) (D_law_text : Dd P w K mg base T 2 "_law_text" 1 m_law_text) (D_law_odd : Dd P w K mg base T 2 "_law_odd" 1 m_law_odd) :
    Dd P w K mg base T 3 "_law_bent_spec" 2 m_law_bent_spec := by
  exact dd_of (k := 2) lk hcd hk hg sc_law_bent_spec (fun _ _ _ _ _ _ us hl => match us, hl with | [_, _], _ => rfl) (ss_cons (ss_set 2 sc_law_bent_spec.nd (se_ix (se_lst (sa_cons se_str (sa_cons se_str (sa_cons se_str (sa_cons se_str (sa_cons se_str (sa_cons se_bl (sa_cons se_non (sa_cons se_int (sa_cons (se_tup (sa_cons se_str sa_nil)) sa_nil)))))))))) (se_call D_law_take (Nat.le_of_ble_eq_true rfl) rfl (sa_cons (se_var 0) (sa_cons se_int sa_nil)))))
    (ss_cons (ss_set 3 sc_law_bent_spec.nd (se_lst (sa_cons (se_var 1) (sa_cons (se_lst (sa_cons (se_ix (se_var 1) se_int) (sa_cons (se_ix (se_var 1) se_int) sa_nil))) (sa_cons (se_tup (sa_cons (se_ix (se_var 1) se_int) sa_nil)) (sa_cons (se_bin op2_add (se_var 1) (se_tup (sa_cons se_str sa_nil))) (sa_cons (se_tup (sa_cons (se_ix (se_var 1) se_int) (sa_cons (se_ix (se_var 1) se_int) sa_nil))) (sa_cons (se_tup (sa_cons (se_ix (se_var 1) se_int) (sa_cons (se_var 2) sa_nil))) sa_nil))))))))
    (ss_one (ss_ret (se_ix (se_bin op2_add (se_var 3) (se_lst (sa_cons (se_tup (sa_cons (se_call D_law_text (Nat.le_of_ble_eq_true rfl) rfl (sa_cons (se_var 0) sa_nil)) (sa_cons (se_ix (se_var 1) se_int) sa_nil))) (sa_cons (se_tup (sa_cons (se_call D_law_odd (Nat.le_of_ble_eq_true rfl) rfl (sa_cons (se_var 0) sa_nil)) (sa_cons (se_ix (se_var 1) se_int) sa_nil))) sa_nil)))) (se_call D_law_take (Nat.le_of_ble_eq_true rfl) rfl (sa_cons (se_var 0) (sa_cons se_int sa_nil))))))))
theorem ok_law_bent_row {f : Addr} {oc : Value} {od : Option Addr} {kV doc pm : Value} {an : Option Addr} {cdv ct : Value} {osl : Array (Option Value)} (x : Mx mg)
    (lk : K.lookup f = some ⟨oc, od, .func (PySem.W.fnOf "_law_bent_row" "_law_bent_row" (defArgs s_law_bent_row) (defBody s_law_bent_row) (defScope s_law_bent_row) .none kV doc pm an cdv ct), osl⟩) (hcd : PySem.W.codeIn K cdv "_law_bent_row" = true) (hk : PySem.W.keepIn K (.ref f) = true) (hg : mg "_law_bent_row" = some (.ref f)) (D_law_take : Dd P w K mg base T 1 "_law_take" 2 m_law_take) (D_law_bent_spec : Dd P w K mg base T 3 "_law_bent_spec" 2 m_law_bent_spec) (D_law_odd : Dd P w K mg base T 2 "_law_odd" 1 m_law_odd) (D_law_text : Dd P w K mg base T 2 "_law_text" 1 m_law_text) :
    Dd P w K mg base T 4 "_law_bent_row" 2 m_law_bent_row := by
  exact dd_of (k := 3) lk hcd hk hg sc_law_bent_row (fun _ _ _ _ _ _ us hl => match us, hl with | [_, _], _ => rfl) (ss_cons (ss_set 2 sc_law_bent_row.nd (se_call D_law_take (Nat.le_of_ble_eq_true rfl) rfl (sa_cons (se_var 0) (sa_cons (se_len rfl x.b_len (se_ix (se_var 1) se_int)) sa_nil))))
    (ss_cons (ss_set 3 sc_law_bent_row.nd (se_bin op2_add (se_bin op2_add (se_slice (se_ix (se_var 1) se_int) so_none (so_some (se_var 2))) (se_tup (sa_cons (se_call D_law_bent_spec (Nat.le_of_ble_eq_true rfl) rfl (sa_cons (se_var 0) (sa_cons (se_ix (se_ix (se_var 1) se_int) (se_var 2)) sa_nil))) sa_nil))) (se_slice (se_ix (se_var 1) se_int) (so_some (se_bin op2_add (se_var 2) se_int)) so_none)))
    (ss_cons (ss_set 4 sc_law_bent_row.nd (se_lst (sa_cons (se_tup (sa_cons (se_ix (se_var 1) se_int) (sa_cons (se_var 3) sa_nil))) (sa_cons (se_tup (sa_cons (se_ix (se_var 1) se_int) (sa_cons (se_tup sa_nil) sa_nil))) (sa_cons (se_tup (sa_cons (se_ix (se_var 1) se_int) (sa_cons (se_bin op2_add (se_ix (se_var 1) se_int) (se_bin op2_mul (se_slice (se_ix (se_var 1) se_int) so_none (so_some se_int)) se_int)) sa_nil))) (sa_cons (se_tup (sa_cons (se_ix (se_var 1) se_int) (sa_cons (se_slice (se_bin op2_mul (se_ix (se_var 1) se_int) se_int) so_none (so_some se_int)) sa_nil))) sa_nil))))))
    (ss_cons (ss_set 4 sc_law_bent_row.nd (se_bin op2_add (se_var 4) (se_lst (sa_cons (se_tup (sa_cons (se_ix (se_var 1) se_int) (sa_cons (se_slice (se_bin op2_mul (se_ix (se_var 1) se_int) se_int) so_none (so_some se_int)) sa_nil))) (sa_cons (se_tup (sa_cons (se_ix (se_var 1) se_int) (sa_cons (se_list rfl x.b_list (se_ix (se_var 1) se_int)) sa_nil))) (sa_cons (se_lst (sa_cons (se_ix (se_var 1) se_int) (sa_cons (se_ix (se_var 1) se_int) sa_nil))) (sa_cons (se_tup (sa_cons (se_ix (se_var 1) se_int) sa_nil)) (sa_cons (se_bin op2_add (se_var 1) (se_tup (sa_cons se_int sa_nil))) sa_nil))))))))
    (ss_one (ss_ret (se_ix (se_bin op2_add (se_var 4) (se_lst (sa_cons (se_tup (sa_cons (se_call D_law_text (Nat.le_of_ble_eq_true rfl) rfl (sa_cons (se_var 0) sa_nil)) (sa_cons (se_ix (se_var 1) se_int) sa_nil))) (sa_cons (se_tup (sa_cons (se_call D_law_odd (Nat.le_of_ble_eq_true rfl) rfl (sa_cons (se_var 0) sa_nil)) (sa_cons (se_ix (se_var 1) se_int) sa_nil))) (sa_cons (se_call D_law_odd (Nat.le_of_ble_eq_true rfl) rfl (sa_cons (se_var 0) sa_nil)) sa_nil))))) (se_call D_law_take (Nat.le_of_ble_eq_true rfl) rfl (sa_cons (se_var 0) (sa_cons se_int sa_nil))))))))))
theorem ok_law_bent {f : Addr} {oc : Value} {od : Option Addr} {kV doc pm : Value} {an : Option Addr} {cdv ct : Value} {osl : Array (Option Value)} (x : Mx mg)
    (lk : K.lookup f = some ⟨oc, od, .func (PySem.W.fnOf "_law_bent" "_law_bent" (defArgs s_law_bent) (defBody s_law_bent) (defScope s_law_bent) .none kV doc pm an cdv ct), osl⟩) (hcd : PySem.W.codeIn K cdv "_law_bent" = true) (hk : PySem.W.keepIn K (.ref f) = true) (hg : mg "_law_bent" = some (.ref f)) (D_law_take : Dd P w K mg base T 1 "_law_take" 2 m_law_take) (D_law_bent_row : Dd P w K mg base T 4 "_law_bent_row" 2 m_law_bent_row) (D_law_odd : Dd P w K mg base T 2 "_law_odd" 1 m_law_odd) :
    Dd P w K mg base T 5 "_law_bent" 2 m_law_bent := by
  exact dd_of (k := 4) lk hcd hk hg sc_law_bent (fun _ _ _ _ _ _ us hl => match us, hl with | [_, _], _ => rfl) (ss_cons (ss_set 2 sc_law_bent.nd (se_call D_law_take (Nat.le_of_ble_eq_true rfl) rfl (sa_cons (se_var 0) (sa_cons (se_len rfl x.b_len (se_var 1)) sa_nil))))
    (ss_cons (ss_set 3 sc_law_bent.nd (se_call D_law_bent_row (Nat.le_of_ble_eq_true rfl) rfl (sa_cons (se_var 0) (sa_cons (se_ix (se_var 1) (se_var 2)) sa_nil))))
    (ss_cons (ss_set 4 sc_law_bent.nd (se_tup (sa_cons (se_bin op2_add se_str (se_ix se_str (se_bin op2_sub (se_len rfl x.b_len (se_var 1)) se_int))) (sa_cons (se_ix (se_ix (se_var 1) se_int) se_int) sa_nil))))
    (ss_cons (ss_set 5 sc_law_bent.nd (se_var 1))
    (ss_cons (ss_for (si_seq (se_slice se_str so_none (so_some (se_bin op2_sub (se_ix (se_lst (sa_cons se_int (sa_cons se_int sa_nil))) (se_call D_law_take (Nat.le_of_ble_eq_true rfl) rfl (sa_cons (se_var 0) (sa_cons se_int sa_nil)))) (se_len rfl x.b_len (se_var 1)))))) (sg_name 6 sc_law_bent.nd) (ss_one (ss_set 5 sc_law_bent.nd (se_bin op2_add (se_var 5) (se_tup (sa_cons (se_tup (sa_cons (se_bin op2_add se_str (se_var 6)) (sa_cons (se_ix (se_ix (se_var 1) se_int) se_int) sa_nil))) sa_nil))))))
    (ss_cons (ss_set 7 sc_law_bent.nd (se_lst (sa_cons (se_var 1) (sa_cons (se_bin op2_add (se_bin op2_add (se_slice (se_var 1) so_none (so_some (se_var 2))) (se_tup (sa_cons (se_var 3) sa_nil))) (se_slice (se_var 1) (so_some (se_bin op2_add (se_var 2) se_int)) so_none)) (sa_cons (se_revT (se_var 1)) (sa_cons (se_bin op2_add (se_var 1) (se_slice (se_var 1) (so_some (se_var 2)) (so_some (se_bin op2_add (se_var 2) se_int)))) (sa_cons (se_tup sa_nil) (sa_cons (se_var 5) sa_nil))))))))
    (ss_one (ss_ret (se_ix (se_bin op2_add (se_var 7) (se_lst (sa_cons (se_list rfl x.b_list (se_var 1)) (sa_cons (se_bin op2_add (se_var 1) (se_tup (sa_cons (se_var 4) sa_nil))) (sa_cons (se_bin op2_add (se_tup (sa_cons (se_var 4) sa_nil)) (se_var 1)) (sa_cons (se_call D_law_odd (Nat.le_of_ble_eq_true rfl) rfl (sa_cons (se_var 0) sa_nil)) sa_nil)))))) (se_call D_law_take (Nat.le_of_ble_eq_true rfl) rfl (sa_cons (se_var 0) (sa_cons se_int sa_nil))))))))))))
theorem ok_law_told {f : Addr} {oc : Value} {od : Option Addr} {kV doc pm : Value} {an : Option Addr} {cdv ct : Value} {osl : Array (Option Value)} (x : Mx mg)
    (lk : K.lookup f = some ⟨oc, od, .func (PySem.W.fnOf "_law_told" "_law_told" (defArgs s_law_told) (defBody s_law_told) (defScope s_law_told) .none kV doc pm an cdv ct), osl⟩) (hcd : PySem.W.codeIn K cdv "_law_told" = true) (hk : PySem.W.keepIn K (.ref f) = true) (hg : mg "_law_told" = some (.ref f)) :
    Dd P w K mg base T 1 "_law_told" 2 m_law_told := by
  exact dd_of (k := 0) lk hcd hk hg sc_law_told (fun _ _ _ _ _ _ us hl => match us, hl with | [_, _], _ => rfl) (ss_one (ss_ret (se_and (se_isi rfl x.b_isinstance rfl x.b_bool (by decide +kernel) (se_var 0)) (se_one (se_cmp op2_eq (se_var 0) (se_var 1))))))
theorem ok_law {f : Addr} {oc : Value} {od : Option Addr} {kV doc pm : Value} {an : Option Addr} {cdv ct : Value} {osl : Array (Option Value)} (x : Mx mg)
    (lk : K.lookup f = some ⟨oc, od, .func (PySem.W.fnOf "law" "law" (defArgs s_law) (defBody s_law) (defScope s_law) .none kV doc pm an cdv ct), osl⟩) (hcd : PySem.W.codeIn K cdv "law" = true) (hk : PySem.W.keepIn K (.ref f) = true) (hg : mg "law" = some (.ref f)) (D_law_stock : Dd P w K mg base T 3 "_law_stock" 1 m_law_stock) (D_law_digits : Dd P w K mg base T 1 "_law_digits" 2 m_law_digits) (D_law_told : Dd P w K mg base T 1 "_law_told" 2 m_law_told) (D_is_stock : Dd P w K mg base T 9 "is_stock" 1 m_is_stock) (D_ports_of : Dd P w K mg base T 1 "ports_of" 2 m_ports_of) (D_mate_of : Dd P w K mg base T 1 "mate_of" 1 m_mate_of) (D_law_take : Dd P w K mg base T 1 "_law_take" 2 m_law_take) (D_law_text : Dd P w K mg base T 2 "_law_text" 1 m_law_text) (D_law_bent_spec : Dd P w K mg base T 3 "_law_bent_spec" 2 m_law_bent_spec) (D_law_bent : Dd P w K mg base T 5 "_law_bent" 2 m_law_bent) (D_law_odd : Dd P w K mg base T 2 "_law_odd" 1 m_law_odd) (D_law_right : Dd P w K mg base T 3 "_law_right" 1 m_law_right) (D_law_spec : Dd P w K mg base T 2 "_law_spec" 1 m_law_spec) (D_is_name : Dd P w K mg base T 3 "is_name" 1 m_is_name) (D_law_name : Dd P w K mg base T 1 "_law_name" 1 m_law_name) (D_is_spec : Dd P w K mg base T 4 "is_spec" 1 m_is_spec) :
    Dd P w K mg base T 10 "law" 1 m_law := by
  exact dd_of (k := 9) lk hcd hk hg sc_law (fun _ _ _ _ _ _ us hl => match us, hl with | [_], _ => rfl) (ss_cons (ss_set 1 sc_law.nd (se_call D_law_stock (Nat.le_of_ble_eq_true rfl) rfl (sa_cons (se_call D_law_digits (Nat.le_of_ble_eq_true rfl) rfl (sa_cons (se_var 0) (sa_cons se_int sa_nil))) sa_nil)))
    (ss_cons (ss_if (st_not (st_val (se_call D_law_told (Nat.le_of_ble_eq_true rfl) rfl (sa_cons (se_call D_is_stock (Nat.le_of_ble_eq_true rfl) rfl (sa_cons (se_var 1) sa_nil)) (sa_cons se_bl sa_nil))))) (ss_one (ss_ret se_bl)) ss_nil)
    (ss_cons (ss_for (si_seq (se_var 1)) (sg_tup (sgs_cons (sg_name 3 sc_law.nd) (sgs_cons (sg_name 4 sc_law.nd) sgs_nil))) (ss_cons (ss_if (st_cmp op2_ne (se_call D_ports_of (Nat.le_of_ble_eq_true rfl) rfl (sa_cons (se_var 1) (sa_cons (se_var 3) sa_nil))) (se_var 4)) (ss_one (ss_ret se_bl)) ss_nil)
    (ss_one (ss_for (si_seq (se_var 4)) (sg_name 5 sc_law.nd) (ss_cons (ss_set 8 sc_law.nd (se_call D_mate_of (Nat.le_of_ble_eq_true rfl) rfl (sa_cons (se_var 5) sa_nil)))
    (ss_one (ss_if (SW.st (sw_or (st_not (st_val (se_call D_law_spec (Nat.le_of_ble_eq_true rfl) rfl (sa_cons (se_var 8) sa_nil)))) (sw_or (st_cmp op2_ne (se_ix (se_var 8) se_int) (se_ix (se_var 5) se_int)) (sw_or (st_cmp op2_eq (se_ix (se_var 8) se_int) (se_ix (se_var 5) se_int)) (sw_or1 (st_cmp op2_ne (se_call D_mate_of (Nat.le_of_ble_eq_true rfl) rfl (sa_cons (se_var 8) sa_nil)) (se_var 5))))))) (ss_one (ss_ret se_bl)) ss_nil)))))))
    (ss_cons (ss_for (si_range2 rfl x.b_range se_int (se_len rfl x.b_len (se_var 0))) (sg_name 2 sc_law.nd) (ss_cons (ss_set 6 sc_law.nd (se_call D_law_digits (Nat.le_of_ble_eq_true rfl) rfl (sa_cons (se_var 0) (sa_cons (se_var 2) sa_nil))))
    (ss_cons (ss_set 5 sc_law.nd (se_ix (se_ix (se_ix (se_var 1) se_int) se_int) se_int))
    (ss_cons (ss_set 7 sc_law.nd (se_ix (se_lst (sa_cons (se_call D_law_text (Nat.le_of_ble_eq_true rfl) rfl (sa_cons (se_var 6) sa_nil)) (sa_cons (se_call D_law_bent_spec (Nat.le_of_ble_eq_true rfl) rfl (sa_cons (se_var 6) (sa_cons (se_var 5) sa_nil))) (sa_cons (se_call D_law_bent (Nat.le_of_ble_eq_true rfl) rfl (sa_cons (se_var 6) (sa_cons (se_var 1) sa_nil))) (sa_cons (se_call D_law_odd (Nat.le_of_ble_eq_true rfl) rfl (sa_cons (se_var 6) sa_nil)) sa_nil))))) (se_call D_law_take (Nat.le_of_ble_eq_true rfl) rfl (sa_cons (se_var 6) (sa_cons se_int sa_nil)))))
    (ss_cons (ss_if (SW.st (sw_or (st_not (st_val (se_call D_law_told (Nat.le_of_ble_eq_true rfl) rfl (sa_cons (se_call D_is_name (Nat.le_of_ble_eq_true rfl) rfl (sa_cons (se_var 7) sa_nil)) (sa_cons (se_call D_law_name (Nat.le_of_ble_eq_true rfl) rfl (sa_cons (se_var 7) sa_nil)) sa_nil))))) (sw_or1 (st_not (st_val (se_call D_law_told (Nat.le_of_ble_eq_true rfl) rfl (sa_cons (se_call D_is_spec (Nat.le_of_ble_eq_true rfl) rfl (sa_cons (se_var 7) sa_nil)) (sa_cons (se_call D_law_spec (Nat.le_of_ble_eq_true rfl) rfl (sa_cons (se_var 7) sa_nil)) sa_nil)))))))) (ss_one (ss_ret se_bl)) ss_nil)
    (ss_one (ss_if (st_not (st_val (se_call D_law_told (Nat.le_of_ble_eq_true rfl) rfl (sa_cons (se_call D_is_stock (Nat.le_of_ble_eq_true rfl) rfl (sa_cons (se_var 7) sa_nil)) (sa_cons (se_call D_law_right (Nat.le_of_ble_eq_true rfl) rfl (sa_cons (se_var 7) sa_nil)) sa_nil))))) (ss_one (ss_ret se_bl)) ss_nil)))))))
    (ss_one (ss_ret se_bl))))))
theorem fn_law {f : Addr} {oc : Value} {od : Option Addr} {kV doc pm : Value} {an : Option Addr} {cdv ct : Value} {osl : Array (Option Value)} (x : Mx mg)
    (lk : K.lookup f = some ⟨oc, od, .func (PySem.W.fnOf "law" "law" (defArgs s_law) (defBody s_law) (defScope s_law) .none kV doc pm an cdv ct), osl⟩) (hcd : PySem.W.codeIn K cdv "law" = true) (D_law_stock : Dd P w K mg base T 3 "_law_stock" 1 m_law_stock) (D_law_digits : Dd P w K mg base T 1 "_law_digits" 2 m_law_digits) (D_law_told : Dd P w K mg base T 1 "_law_told" 2 m_law_told) (D_is_stock : Dd P w K mg base T 9 "is_stock" 1 m_is_stock) (D_ports_of : Dd P w K mg base T 1 "ports_of" 2 m_ports_of) (D_mate_of : Dd P w K mg base T 1 "mate_of" 1 m_mate_of) (D_law_take : Dd P w K mg base T 1 "_law_take" 2 m_law_take) (D_law_text : Dd P w K mg base T 2 "_law_text" 1 m_law_text) (D_law_bent_spec : Dd P w K mg base T 3 "_law_bent_spec" 2 m_law_bent_spec) (D_law_bent : Dd P w K mg base T 5 "_law_bent" 2 m_law_bent) (D_law_odd : Dd P w K mg base T 2 "_law_odd" 1 m_law_odd) (D_law_right : Dd P w K mg base T 3 "_law_right" 1 m_law_right) (D_law_spec : Dd P w K mg base T 2 "_law_spec" 1 m_law_spec) (D_is_name : Dd P w K mg base T 3 "is_name" 1 m_is_name) (D_law_name : Dd P w K mg base T 1 "_law_name" 1 m_law_name) (D_is_spec : Dd P w K mg base T 4 "is_spec" 1 m_is_spec) :
    FnOk P w K mg base CX0 10 f (PySem.W.fnOf "law" "law" (defArgs s_law) (defBody s_law) (defScope s_law) .none kV doc pm an cdv ct) ["_law_script"] (spM K T 1 m_law) := by
  exact def_ok (k := 9) lk hcd sc_law (ss_cons (ss_set 1 sc_law.nd (se_call D_law_stock (Nat.le_of_ble_eq_true rfl) rfl (sa_cons (se_call D_law_digits (Nat.le_of_ble_eq_true rfl) rfl (sa_cons (se_var 0) (sa_cons se_int sa_nil))) sa_nil)))
    (ss_cons (ss_if (st_not (st_val (se_call D_law_told (Nat.le_of_ble_eq_true rfl) rfl (sa_cons (se_call D_is_stock (Nat.le_of_ble_eq_true rfl) rfl (sa_cons (se_var 1) sa_nil)) (sa_cons se_bl sa_nil))))) (ss_one (ss_ret se_bl)) ss_nil)
    (ss_cons (ss_for (si_seq (se_var 1)) (sg_tup (sgs_cons (sg_name 3 sc_law.nd) (sgs_cons (sg_name 4 sc_law.nd) sgs_nil))) (ss_cons (ss_if (st_cmp op2_ne (se_call D_ports_of (Nat.le_of_ble_eq_true rfl) rfl (sa_cons (se_var 1) (sa_cons (se_var 3) sa_nil))) (se_var 4)) (ss_one (ss_ret se_bl)) ss_nil)
    (ss_one (ss_for (si_seq (se_var 4)) (sg_name 5 sc_law.nd) (ss_cons (ss_set 8 sc_law.nd (se_call D_mate_of (Nat.le_of_ble_eq_true rfl) rfl (sa_cons (se_var 5) sa_nil)))
    (ss_one (ss_if (SW.st (sw_or (st_not (st_val (se_call D_law_spec (Nat.le_of_ble_eq_true rfl) rfl (sa_cons (se_var 8) sa_nil)))) (sw_or (st_cmp op2_ne (se_ix (se_var 8) se_int) (se_ix (se_var 5) se_int)) (sw_or (st_cmp op2_eq (se_ix (se_var 8) se_int) (se_ix (se_var 5) se_int)) (sw_or1 (st_cmp op2_ne (se_call D_mate_of (Nat.le_of_ble_eq_true rfl) rfl (sa_cons (se_var 8) sa_nil)) (se_var 5))))))) (ss_one (ss_ret se_bl)) ss_nil)))))))
    (ss_cons (ss_for (si_range2 rfl x.b_range se_int (se_len rfl x.b_len (se_var 0))) (sg_name 2 sc_law.nd) (ss_cons (ss_set 6 sc_law.nd (se_call D_law_digits (Nat.le_of_ble_eq_true rfl) rfl (sa_cons (se_var 0) (sa_cons (se_var 2) sa_nil))))
    (ss_cons (ss_set 5 sc_law.nd (se_ix (se_ix (se_ix (se_var 1) se_int) se_int) se_int))
    (ss_cons (ss_set 7 sc_law.nd (se_ix (se_lst (sa_cons (se_call D_law_text (Nat.le_of_ble_eq_true rfl) rfl (sa_cons (se_var 6) sa_nil)) (sa_cons (se_call D_law_bent_spec (Nat.le_of_ble_eq_true rfl) rfl (sa_cons (se_var 6) (sa_cons (se_var 5) sa_nil))) (sa_cons (se_call D_law_bent (Nat.le_of_ble_eq_true rfl) rfl (sa_cons (se_var 6) (sa_cons (se_var 1) sa_nil))) (sa_cons (se_call D_law_odd (Nat.le_of_ble_eq_true rfl) rfl (sa_cons (se_var 6) sa_nil)) sa_nil))))) (se_call D_law_take (Nat.le_of_ble_eq_true rfl) rfl (sa_cons (se_var 6) (sa_cons se_int sa_nil)))))
    (ss_cons (ss_if (SW.st (sw_or (st_not (st_val (se_call D_law_told (Nat.le_of_ble_eq_true rfl) rfl (sa_cons (se_call D_is_name (Nat.le_of_ble_eq_true rfl) rfl (sa_cons (se_var 7) sa_nil)) (sa_cons (se_call D_law_name (Nat.le_of_ble_eq_true rfl) rfl (sa_cons (se_var 7) sa_nil)) sa_nil))))) (sw_or1 (st_not (st_val (se_call D_law_told (Nat.le_of_ble_eq_true rfl) rfl (sa_cons (se_call D_is_spec (Nat.le_of_ble_eq_true rfl) rfl (sa_cons (se_var 7) sa_nil)) (sa_cons (se_call D_law_spec (Nat.le_of_ble_eq_true rfl) rfl (sa_cons (se_var 7) sa_nil)) sa_nil)))))))) (ss_one (ss_ret se_bl)) ss_nil)
    (ss_one (ss_if (st_not (st_val (se_call D_law_told (Nat.le_of_ble_eq_true rfl) rfl (sa_cons (se_call D_is_stock (Nat.le_of_ble_eq_true rfl) rfl (sa_cons (se_var 7) sa_nil)) (sa_cons (se_call D_law_right (Nat.le_of_ble_eq_true rfl) rfl (sa_cons (se_var 7) sa_nil)) sa_nil))))) (ss_one (ss_ret se_bl)) ss_nil)))))))
    (ss_one (ss_ret se_bl))))))
end
end K01

set_option Elab.async false
set_option linter.all false
set_option maxRecDepth 100000
set_option maxHeartbeats 4000000
/-! what the pieces give, forwards: H r Q: r gives something of which Q holds -/
namespace K01
open PySem PySem.Spec PyProof.Rows L2 NdefX GenE Sh
def H {α β : Type} (r : Option (α × β)) (Q : α → β → Prop) : Prop := ∃ a b, r = some (a, b) ∧ Q a b
def H3 {α β γ : Type} (r : Option (α × β × γ)) (Q : α → β → γ → Prop) : Prop := ∃ a b c, r = some (a, b, c) ∧ Q a b c
theorem h_some {α β : Type} {a : α} {b : β} {Q : α → β → Prop} : H (some (a, b)) Q = Q a b := by
  apply propext
  constructor
  · rintro ⟨x, y, e, q⟩
    cases e
    exact q
  · exact fun q => ⟨_, _, rfl, q⟩
theorem h_none {α β : Type} {Q : α → β → Prop} : H (none : Option (α × β)) Q = False := by
  apply propext
  constructor
  · rintro ⟨x, y, e, q⟩
    cases e
  · exact False.elim
theorem h3_some {α β γ : Type} {a : α} {b : β} {c : γ} {Q : α → β → γ → Prop} : H3 (some (a, b, c)) Q = Q a b c := by
  apply propext
  constructor
  · rintro ⟨x, y, z, e, q⟩
    cases e
    exact q
  · exact fun q => ⟨_, _, _, rfl, q⟩
theorem h3_none {α β γ : Type} {Q : α → β → γ → Prop} : H3 (none : Option (α × β × γ)) Q = False := by
  apply propext
  constructor
  · rintro ⟨x, y, z, e, q⟩
    cases e
  · exact False.elim
theorem H.mono {α β : Type} {r : Option (α × β)} {Q Q' : α → β → Prop} (h : H r Q) (k : ∀ a b, Q a b → Q' a b) : H r Q' := by
  obtain ⟨a, b, e, q⟩ := h
  exact ⟨a, b, e, k a b q⟩
theorem H.of {α β : Type} {r : Option (α × β)} {a : α} {b : β} {Q : α → β → Prop} (e : r = some (a, b)) (q : Q a b) : H r Q := ⟨a, b, e, q⟩
variable {ρ : Sh.Env} {M : Mem} {f g fa fb fc : Fe} {Q : Vl → Mem → Prop}
theorem w_var {i : Nat} : H (eVar i ρ M) Q = match ρ[i]? with
    | some (some v) => Q v M
    | _ => False := by
  unfold eVar
  rcases ρ[i]? with _ | _ | v <;> simp [h_some, h_none]
theorem w_c {v : Vl} : H (eC v ρ M) Q = Q v M := h_some
theorem w_2 {op : Vl → Vl → Mem → Option (Vl × Mem)} : H (e2 op fa fb ρ M) Q = H (fa ρ M) fun a M1 => H (fb ρ M1) fun b M2 => H (op a b M2) Q := by
  unfold e2
  rcases fa ρ M with _ | ⟨a, M1⟩
  · simp [h_none]
  · simp only [h_some]
    rcases fb ρ M1 with _ | ⟨b, M2⟩ <;> simp [h_some, h_none]
theorem w_3 {op op' : Vl → Vl → Mem → Option (Vl × Mem)} : H (e3 op op' fa fb fc ρ M) Q = H (fa ρ M) fun a M1 => H (fb ρ M1) fun b M2 => H (op a b M2) fun c M3 => ∃ t, c = .bl t ∧ if t = true then H (fc ρ M3) fun d M4 => H (op' b d M4) Q else Q (.bl false) M3 := by
  unfold e3
  rcases fa ρ M with _ | ⟨a, M1⟩
  · simp [h_none]
  · simp only [h_some]
    rcases fb ρ M1 with _ | ⟨b, M2⟩
    · simp [h_none]
    · simp only [h_some]
      rcases op a b M2 with _ | ⟨c, M3⟩
      · simp [h_none]
      · simp only [h_some]
        cases c with
        | bl t =>
          cases t with
          | true =>
            simp
            rcases fc ρ M3 with _ | ⟨d, M4⟩ <;> simp [h_some, h_none]
          | false => simp [h_some]
        | _ => simp [h_none]
theorem w_aNil {Q : List Vl → Mem → Prop} : H (aNil ρ M) Q = Q [] M := h_some
theorem w_aCons {ga : Fa} {Q : List Vl → Mem → Prop} : H (aCons f ga ρ M) Q = H (f ρ M) fun v M1 => H (ga ρ M1) fun vs M2 => Q (v :: vs) M2 := by
  unfold aCons
  rcases f ρ M with _ | ⟨a, M1⟩
  · simp [h_none]
  · simp only [h_some]
    rcases ga ρ M1 with _ | ⟨b, M2⟩ <;> simp [h_some, h_none]
theorem w_A {op : List Vl → Mem → Option (Vl × Mem)} {ga : Fa} : H (eA op ga ρ M) Q = H (ga ρ M) fun vs M1 => H (op vs M1) Q := by
  unfold eA
  rcases ga ρ M with _ | ⟨a, M1⟩ <;> simp [h_none, h_some]
theorem w_and : H (eAnd f g ρ M) Q = H (f ρ M) fun v M1 => ∃ t, v = .bl t ∧ if t = true then H (g ρ M1) Q else Q (.bl false) M1 := by
  unfold eAnd
  rcases f ρ M with _ | ⟨a, M1⟩
  · simp [h_none]
  · simp only [h_some]
    cases a with
    | bl t => cases t <;> simp [h_some]
    | _ => simp [h_none]
theorem w_or : H (eOr f g ρ M) Q = H (f ρ M) fun v M1 => ∃ t, v = .bl t ∧ if t = true then Q (.bl true) M1 else H (g ρ M1) Q := by
  unfold eOr
  rcases f ρ M with _ | ⟨a, M1⟩
  · simp [h_none]
  · simp only [h_some]
    cases a with
    | bl t => cases t <;> simp [h_some]
    | _ => simp [h_none]
theorem w_if {t : Ft} : H (eIf t f g ρ M) Q = H (t ρ M) fun b M1 => if b = true then H (f ρ M1) Q else H (g ρ M1) Q := by
  unfold eIf
  rcases t ρ M with _ | ⟨_ | _, M1⟩ <;> simp [h_none, h_some]
theorem w_neg : H (eNeg f ρ M) Q = H (f ρ M) fun v M1 => ∃ i, v = .int i ∧ Q (.int (-i)) M1 := by
  unfold eNeg
  rcases f ρ M with _ | ⟨a, M1⟩
  · simp [h_none]
  · simp only [h_some]
    cases a <;> simp [h_none, h_some]
def isiR (T : String) (M : Mem) (v : Vl) (Q : Bool → Prop) : Prop := match tyN M v with
    | some t => (match kitB t T with
      | some b => Q b
      | none => False)
    | none => False
theorem w_isi {T : String} : H (eIsi T f ρ M) Q = H (f ρ M) fun v M1 => isiR T M1 v fun b => Q (.bl b) M1 := by
  unfold eIsi isiR
  rcases f ρ M with _ | ⟨a, M1⟩
  · simp only [h_none]
  · simp only [h_some]
    rcases tyN M1 a with _ | t
    · simp only [h_none]
    · simp only
      rcases kitB t T with _ | b <;> simp only [h_none, h_some, Option.map_none, Option.map_some]
theorem w_sl {l h : Fo} : H (eSl f l h ρ M) Q = H (f ρ M) fun v M1 => H (l ρ M1) fun lo M2 => H (h ρ M2) fun hi M3 => H (vSl v lo hi M3) Q := by
  unfold eSl
  rcases f ρ M with _ | ⟨a, M1⟩
  · simp [h_none]
  · simp only [h_some]
    rcases l ρ M1 with _ | ⟨b, M2⟩
    · simp [h_none]
    · simp only [h_some]
      rcases h ρ M2 with _ | ⟨c, M3⟩ <;> simp [h_some, h_none]
theorem w_oNone {Q : Option Int → Mem → Prop} : H (oNone ρ M) Q = Q none M := h_some
theorem w_oSome {Q : Option Int → Mem → Prop} : H (oSome f ρ M) Q = H (f ρ M) fun v M1 => ∃ i, v = .int i ∧ Q (some i) M1 := by
  unfold oSome
  rcases f ρ M with _ | ⟨a, M1⟩
  · simp [h_none]
  · simp only [h_some]
    cases a <;> simp [h_none, h_some]
theorem w_app : H (eApp fa f ρ M) Q = H (fa ρ M) fun a M1 => ∃ k xs, a = .ref k ∧ seqAt M1 k = some xs ∧ H (f ρ M1) fun y M2 => H (vApp (.ref k) y M2) Q := by
  unfold eApp
  rcases fa ρ M with _ | ⟨a, M1⟩
  · simp [h_none]
  · simp only [h_some]
    cases a with
    | ref k =>
      simp only
      rcases h : seqAt M1 k with _ | xs
      · simp [h_none, h]
      · simp only
        rcases f ρ M1 with _ | ⟨y, M2⟩ <;> simp [h_none, h_some, h]
    | _ => simp [h_none]
theorem w_revT : H (eRevT f ρ M) Q = H (f ρ M) fun v M1 => match v with
    | .tup _ xs => Q (.tup false xs.reverse) M1
    | _ => False := by
  unfold eRevT
  rcases f ρ M with _ | ⟨a, M1⟩
  · simp only [h_none]
  · simp only [h_some]
    cases a <;> simp only [h_none, h_some]
theorem w_lenSet : H (eLenSet f ρ M) Q = H (f ρ M) fun v M1 => ∃ k xs ys, v = .ref k ∧ seqAt M1 k = some xs ∧ txts xs = some ys ∧ ys.length ≤ 1000 ∧ Q (.int (SetS.met ys).length) M1 := by
  unfold eLenSet
  rcases f ρ M with _ | ⟨a, M1⟩
  · simp [h_none]
  · simp only [h_some]
    cases a with
    | ref k =>
      simp only
      rcases h : seqAt M1 k with _ | xs
      · simp [h_none, h]
      · simp only
        rcases h' : txts xs with _ | ys
        · simp [h_none, h, h']
        · simp only
          by_cases hl : ys.length ≤ 1000
          · simp [h_some, h, h', hl]
          · simp [h_none, h, h', hl]
    | _ => simp [h_none]
variable {t t' : Ft} {QT : Bool → Mem → Prop}
theorem w_tV : H (tV f ρ M) QT = H (f ρ M) fun v M1 => ∃ b, v = .bl b ∧ QT b M1 := by
  unfold tV
  rcases f ρ M with _ | ⟨a, M1⟩
  · simp [h_none]
  · simp only [h_some]
    cases a <;> simp [h_none, h_some]
theorem w_tAn : H (tAn t t' ρ M) QT = H (t ρ M) fun b M1 => if b = true then H (t' ρ M1) QT else QT false M1 := by
  unfold tAn
  rcases t ρ M with _ | ⟨_ | _, M1⟩ <;> simp [h_none, h_some]
theorem w_tO : H (tO t t' ρ M) QT = H (t ρ M) fun b M1 => if b = true then QT true M1 else H (t' ρ M1) QT := by
  unfold tO
  rcases t ρ M with _ | ⟨_ | _, M1⟩ <;> simp [h_none, h_some]
theorem w_tN : H (tN t ρ M) QT = H (t ρ M) fun b M1 => QT (!b) M1 := by
  unfold tN
  rcases t ρ M with _ | ⟨_ | _, M1⟩ <;> simp [h_none, h_some]
theorem w_tYs : H (tYs ρ M) QT = QT true M := h_some
variable {s s' : Fs} {QS : Out → Sh.Env → Mem → Prop}
theorem w_sNil : H3 (sNil ρ M) QS = QS .nx ρ M := h3_some
def thenS (s : Fs) (Q : Out → Sh.Env → Mem → Prop) : Out → Sh.Env → Mem → Prop
  | .nx, ρ, M => H3 (s ρ M) Q
  | o, ρ, M => Q o ρ M
theorem w_sCons : H3 (sCons s s' ρ M) QS = H3 (s ρ M) (thenS s' QS) := by
  unfold sCons
  rcases s ρ M with _ | ⟨_ | _, ρ1, M1⟩ <;> simp [h3_none, h3_some, thenS]
theorem w_then_nx : thenS s QS .nx ρ M = H3 (s ρ M) QS := rfl
theorem w_then_rt {v : Vl} : thenS s QS (.rt v) ρ M = QS (.rt v) ρ M := rfl
theorem w_ret : H3 (sRet f ρ M) QS = H (f ρ M) fun v M1 => QS (.rt v) ρ M1 := by
  unfold sRet
  rcases f ρ M with _ | ⟨a, M1⟩ <;> simp [h_none, h3_none, h_some, h3_some]
theorem w_ex : H3 (sEx f ρ M) QS = H (f ρ M) fun v M1 => QS .nx ρ M1 := by
  unfold sEx
  rcases f ρ M with _ | ⟨a, M1⟩ <;> simp [h_none, h3_none, h_some, h3_some]
theorem w_sIf : H3 (sIf t s s' ρ M) QS = H (t ρ M) fun b M1 => if b = true then H3 (s ρ M1) QS else H3 (s' ρ M1) QS := by
  unfold sIf
  rcases t ρ M with _ | ⟨_ | _, M1⟩ <;> simp [h_none, h3_none, h_some]
theorem w_asg {gg : Fg} : H3 (sAsg f gg ρ M) QS = H (f ρ M) fun v M1 => H (gg v ρ M1) fun ρ1 M2 => QS .nx ρ1 M2 := by
  unfold sAsg
  rcases f ρ M with _ | ⟨a, M1⟩
  · simp [h_none, h3_none]
  · simp only [h_some]
    rcases gg a ρ M1 with _ | ⟨b, M2⟩ <;> simp [h3_some, h_none, h3_none, h_some]
variable {QG : Sh.Env → Mem → Prop}
theorem w_gN {i : Nat} {v : Vl} : H (gN i v ρ M) QG = QG (ρ.set i (some v)) M := h_some
theorem w_gsNil : H (gsNil [] ρ M) QG = QG ρ M := h_some
theorem w_gsCons {gg : Fg} {gs : Fgs} {v : Vl} {vs : List Vl} : H (gsCons gg gs (v :: vs) ρ M) QG = H (gg v ρ M) fun ρ1 M1 => H (gs vs ρ1 M1) QG := by
  unfold gsCons
  simp only
  rcases gg v ρ M with _ | ⟨a, M1⟩ <;> simp [h_none, h_some]
theorem w_gT {n : Nat} {gs : Fgs} {d : Bool} {xs : List Vl} : H (gT n gs (.tup d xs) ρ M) QG = (xs.length = n ∧ H (gs xs ρ M) QG) := by
  unfold gT
  simp only
  by_cases h : xs.length = n <;> simp [h, h_none]
def outR (Q : Vl → Mem → Prop) : Out → Sh.Env → Mem → Prop
  | .rt v, _, M => Q v M
  | .nx, _, M => Q .non M
  | _, _, _ => False
theorem w_run {n : Nat} {xs : List Vl} : H (runD n s xs M) Q = H3 (s (xs.map some ++ List.replicate (n - xs.length) none) M) (outR Q) := by
  unfold runD
  rcases s _ M with _ | ⟨_ | _, ρ1, M1⟩ <;> simp [h_none, h3_none, h_some, h3_some, outR]
theorem w_out_rt {v : Vl} : outR Q (.rt v) ρ M = Q v M := rfl
theorem w_out_nx : outR Q .nx ρ M = Q .non M := rfl
theorem w_mkT {vs : List Vl} : H (mkT vs M) Q = (vs.length ≤ 1000 ∧ Q (.tup false vs) M) := by
  unfold mkT
  by_cases h : vs.length ≤ 1000 <;> simp [h, h_none, h_some]
theorem w_mkL {vs : List Vl} : H (mkL vs M) Q = (vs.length ≤ 1000 ∧ Q (.ref M.length) (M ++ [.lst vs])) := by
  unfold mkL
  by_cases h : vs.length ≤ 1000 <;> simp [h, h_none, h_some]
theorem w_v1 {op : Vl → Mem → Option (Vl × Mem)} {x : Vl} : H (v1 op [x] M) Q = H (op x M) Q := rfl
theorem w_ifO {c : Prop} [Decidable c] {α β : Type} {a : α} {b : β} {Q : α → β → Prop} : H (if c then some (a, b) else none) Q = (c ∧ Q a b) := by
  by_cases h : c <;> simp [h, h_some, h_none]
theorem w_map {α : Type} {o : Option α} {k : α → Vl × Mem} : H (o.map k) Q = ∃ a, o = some a ∧ Q (k a).1 (k a).2 := by
  rcases o with _ | a
  · simp [h_none]
  · simp only [Option.map_some]
    rw [show k a = ((k a).1, (k a).2) from rfl, h_some]
    simp
end K01

set_option Elab.async false
set_option linter.all false
set_option maxRecDepth 100000
set_option maxHeartbeats 4000000
namespace K01
open PySem PySem.Spec PyProof.Rows L2 NdefX GenE Sh
theorem H.eq {α β : Type} {r : Option (α × β)} {x : α} {y : β} (h : H r fun a b => a = x ∧ b = y) : r = some (x, y) := by
  obtain ⟨a, b, e, rfl, rfl⟩ := h
  exact e
section
variable {ρ : Sh.Env} {M : Mem} {Q : Vl → Mem → Prop} {f fa fb : Fe} {fi : Fi} {i j : Int} {g : Fg} {t : Ft} {fe : Fe}
theorem ix_ref {k : Nat} {xs : List Vl} {x : Vl} (e : M[k]? = some (.lst xs)) (h : atI xs i = some x) : H (vIx (.ref k) (.int i) M) Q = Q x M := by
  simp only [vIx, seqAt, e, Ob.seq, h, Option.map_some, h_some]
theorem ix_seq {k : Nat} {xs : List Vl} {x : Vl} (e : seqAt M k = some xs) (h : atI xs i = some x) : H (vIx (.ref k) (.int i) M) Q = Q x M := by
  simp only [vIx, e, h, Option.map_some, h_some]
theorem ix_tup {d : Bool} {xs : List Vl} {x : Vl} (h : atI xs i = some x) : H (vIx (.tup d xs) (.int i) M) Q = Q x M := by
  simp only [vIx, h, Option.map_some, h_some]
theorem ix_str {z : Str} {c : Nat} (hz : z.length ≤ lim) (h : atI z.cps.toList i = some c) : H (vIx (.str z) (.int i) M) Q = Q (.str ⟨#[c]⟩) M := by
  simp only [vIx, hz, if_pos, h, Option.map_some, h_some]
theorem w_mod (hj : 0 < j) : H (vMod (.int i) (.int j) M) Q = Q (.int (i % j)) M := by
  simp only [vMod, Sh.vInt, hj, if_pos, h_some]
theorem w_div (h1 : 0 < j) (h2 : j < 1073741824) : H (vDiv (.int i) (.int j) M) Q = Q (.int (i / j)) M := by
  have h : CDiv i j := ⟨h1, h2⟩
  simp only [vDiv, Sh.vInt, h, if_pos, h_some]
theorem w_addI : H (vAdd (.int i) (.int j) M) Q = Q (.int (i + j)) M := h_some
theorem w_subI : H (vSub (.int i) (.int j) M) Q = Q (.int (i - j)) M := by
  simp only [vSub, Sh.vInt, if_pos, h_some]
theorem w_mulI (h : CMul i j) : H (vMul (.int i) (.int j) M) Q = Q (.int (i * j)) M := by
  simp only [vMul, h, if_pos, h_some]
theorem w_leI : H (vLe (.int i) (.int j) M) Q = Q (.bl (decide (i ≤ j))) M := h_some
theorem w_gtI : H (vGt (.int i) (.int j) M) Q = Q (.bl (decide (j < i))) M := h_some
theorem w_geI : H (vGe (.int i) (.int j) M) Q = Q (.bl (decide (j ≤ i))) M := h_some
theorem w_ltI : H (vLt (.int i) (.int j) M) Q = Q (.bl (decide (i < j))) M := h_some
theorem w_lenT {d : Bool} {xs : List Vl} : H (vLen (.tup d xs) M) Q = Q (.int xs.length) M := h_some
theorem w_lenS {z : Str} (hz : z.length ≤ lim) : H (vLen (.str z) M) Q = Q (.int z.length) M := by
  simp only [vLen, hz, if_pos, h_some]
theorem w_lenR {k : Nat} {xs : List Vl} (e : seqAt M k = some xs) : H (vLen (.ref k) M) Q = Q (.int xs.length) M := by
  simp only [vLen, e, h_some]
theorem seqAt_of {k : Nat} {xs : List Vl} (e : M[k]? = some (.lst xs)) : seqAt M k = some xs := by
  simp only [seqAt, e, Ob.seq]
theorem w_iSeq {Q : Src → Nat → Mem → Prop} : H3 (iSeq f ρ M) Q = H (f ρ M) fun v M1 => match v with
    | .tup _ xs => Q (fun _ => some xs) xs.length M1
    | .str z => Q (fun _ => some (signs z)) z.length M1
    | .ref k => ∃ xs, seqAt M1 k = some xs ∧ Q (fun M => seqAt M k) xs.length M1
    | _ => False := by
  unfold iSeq
  rcases f ρ M with _ | ⟨a, M1⟩
  · simp only [h_none, h3_none]
  · simp only [h_some]
    cases a with
    | ref k =>
      simp only
      rcases h : seqAt M1 k with _ | xs
      · simp only [h3_none]
        simp
      · simp only [h3_some, Option.some.injEq, exists_eq_left']
    | _ => simp only [h3_none, h3_some]
theorem w_iR1 {Q : Src → Nat → Mem → Prop} : H3 (iRange1 f ρ M) Q = H (f ρ M) fun v M1 => ∃ j, v = .int j ∧ (-(2 ^ 62) ≤ j ∧ j < 2 ^ 62) ∧ Q (fun _ => some (rng 0 j.toNat)) j.toNat M1 := by
  unfold iRange1
  rcases f ρ M with _ | ⟨a, M1⟩
  · simp only [h_none, h3_none]
  · simp only [h_some]
    cases a with
    | int j =>
      simp only [Vl.int.injEq, exists_eq_left']
      by_cases h : -(2 ^ 62) ≤ j ∧ j < 2 ^ 62
      · simp only [h, and_self, if_pos, h3_some, true_and]
      · rw [if_neg h, h3_none]
        simp only [h, false_and]
    | _ => simp [h3_none, h3_some]
theorem w_iR2 {Q : Src → Nat → Mem → Prop} : H3 (iRange2 fa fb ρ M) Q = H (fa ρ M) fun a M1 => ∃ i, a = .int i ∧ H (fb ρ M1) fun b M2 => ∃ j, b = .int j ∧ (-(2 ^ 62) ≤ i ∧ i < 2 ^ 62 ∧ -(2 ^ 62) ≤ j ∧ j < 2 ^ 62) ∧ Q (fun _ => some (rng i (j - i).toNat)) (j - i).toNat M2 := by
  unfold iRange2
  rcases fa ρ M with _ | ⟨a, M1⟩
  · simp only [h_none, h3_none]
  · simp only [h_some]
    cases a with
    | int i =>
      simp only [Vl.int.injEq, exists_eq_left']
      rcases fb ρ M1 with _ | ⟨b, M2⟩
      · simp only [h_none, h3_none]
      · simp only [h_some]
        cases b with
        | int j =>
          simp only [Vl.int.injEq, exists_eq_left']
          by_cases h : -(2 ^ 62) ≤ i ∧ i < 2 ^ 62 ∧ -(2 ^ 62) ≤ j ∧ j < 2 ^ 62
          · rw [if_pos h, h3_some]
            simp only [h, and_self, true_and]
          · rw [if_neg h, h3_none]
            simp only [h, false_and]
        | _ => simp [h3_none, h3_some]
    | _ => simp [h3_none, h3_some]
theorem w_for {body : Fs} {QS : Out → Sh.Env → Mem → Prop} : H3 (sFor fi g body ρ M) QS = H3 (fi ρ M) fun src n M1 => H3 (forL src g body n 0 ρ M1) QS := by
  unfold sFor
  rcases fi ρ M with _ | ⟨a, n, M1⟩ <;> simp only [h3_none, h3_some]
def LC (src : Src) (g : Fg) (t : Ft) (fe : Fe) (k : Nat) (ρ : Sh.Env) (n i : Nat) (M : Mem) (Q : Mem → Prop) : Prop := ∃ M', lcL src g t fe k ρ n i M = some M' ∧ Q M'
theorem w_lc {vs : List Nat} : H (eLc vs fi g t fe ρ M) Q = H3 (fi ρ M) fun src n M1 => LC src g t fe M1.length (wipeE ρ vs) n 0 (M1 ++ [.lst []]) fun M2 => Q (.ref M1.length) M2 := by
  unfold eLc
  rcases fi ρ M with _ | ⟨a, n, M1⟩
  · simp only [h_none, h3_none]
  · simp only [h3_some, LC]
    generalize lcL _ _ _ _ _ _ _ _ _ = r
    rcases r with _ | M2
    · rw [h_none]
      simp
    · rw [h_some]
      simp
theorem w_allG {stop : Bool} {n : Nat} {js : List Nat} : H (eAllG stop n js fi g t fe ρ M) Q = H3 (fi ρ M) fun src m M1 => H (allL stop src g t fe m 0 (gen0 n js ρ) M1) fun b M2 => Q (.bl b) M2 := by
  unfold eAllG
  rcases fi ρ M with _ | ⟨a, m, M1⟩
  · simp only [h_none, h3_none]
  · simp only [h3_some]
    rcases allL stop a g t fe m 0 (gen0 n js ρ) M1 with _ | ⟨b, M2⟩ <;> simp only [h_none, h_some]
end
/-! ### loops -/
theorem noneAt {α : Type} (xs : List α) : xs[xs.length]? = none := List.getElem?_eq_none (Nat.le_refl _)
theorem all_ok {src : Src} {fe : Fe} {xs : List Vl} {p : Vl → Bool} {cap : Sh.Env} {M : Mem} (hs : src M = some xs) (h : ∀ x ∈ xs, fe (some x :: cap) M = some (.bl (p x), M)) :
    ∀ (n i : Nat) (o : Option Vl), xs.length ≤ n + i → allL false src (gN 0) tYs fe n i (o :: cap) M = some ((xs.drop i).all p, M) := by
  intro n
  induction n with
  | zero =>
    intro i o hl
    have e : xs[i]? = none := List.getElem?_eq_none (by omega)
    rw [allL]
    simp only [hs, e]
    rw [List.drop_of_length_le (by omega)]
    rfl
  | succ n ih =>
    intro i o hl
    rw [allL]
    simp only [hs]
    rcases e : xs[i]? with _ | x
    · simp only
      rw [List.drop_of_length_le (List.getElem?_eq_none_iff.mp e)]
      rfl
    · have hi := (List.getElem?_eq_some_iff.mp e).1
      have he := (List.getElem?_eq_some_iff.mp e).2
      have hx : x ∈ xs := List.mem_of_getElem? e
      simp only [gN, List.set_cons_zero, tYs, h x hx]
      rw [List.drop_eq_getElem_cons hi, he, List.all_cons]
      cases p x with
      | true => simp only [Bool.true_eq_false, if_false, Bool.true_and]; exact ih (i + 1) (some x) (by omega)
      | false => simp only [if_true, Bool.false_and]
theorem all_run {src : Src} {fe : Fe} {xs : List Vl} {p : Vl → Bool} {cap : Sh.Env} {M : Mem} {n : Nat} {o : Option Vl} {Q : Bool → Mem → Prop} (hs : src M = some xs) (h : ∀ x ∈ xs, fe (some x :: cap) M = some (.bl (p x), M)) (hn : xs.length ≤ n)
    (q : Q (xs.all p) M) : H (allL false src (gN 0) tYs fe n 0 (o :: cap) M) Q :=
  .of (all_ok hs h n 0 o (by omega)) q
theorem for_ok {src : Src} {g : Fg} {body : Fs} {QS : Out → Sh.Env → Mem → Prop} (xs : List Vl) (J : Nat → Sh.Env → Mem → Prop)
    (step : ∀ i x ρ M, xs[i]? = some x → J i ρ M → src M = some xs ∧ H (g x ρ M) fun ρ1 M1 => H3 (body ρ1 M1) fun o ρ2 M2 => (o = .nx ∧ J (i + 1) ρ2 M2) ∨ ∃ v, o = .rt v ∧ QS (.rt v) ρ2 M2)
    (fin : ∀ ρ M, J xs.length ρ M → src M = some xs ∧ QS .nx ρ M) :
    ∀ (n i : Nat) (ρ : Sh.Env) (M : Mem), i ≤ xs.length → xs.length ≤ n + i → J i ρ M → H3 (forL src g body n i ρ M) QS := by
  intro n
  induction n with
  | zero =>
    intro i ρ M hi hl j
    have hi : i = xs.length := by omega
    subst hi
    obtain ⟨f1, f2⟩ := fin ρ M j
    rw [forL]
    simp only [f1, noneAt, h3_some]
    exact f2
  | succ n ih =>
    intro i ρ M hi hl j
    rcases e : xs[i]? with _ | x
    · have hi : i = xs.length := by have := List.getElem?_eq_none_iff.mp e; omega
      subst hi
      obtain ⟨f1, f2⟩ := fin ρ M j
      rw [forL]
      simp only [f1, noneAt, h3_some]
      exact f2
    · have hi := (List.getElem?_eq_some_iff.mp e).1
      obtain ⟨s1, ρ1, M1, e1, o, ρ2, M2, e2, r⟩ := step i x ρ M e j
      rw [forL]
      simp only [s1, e, e1, e2]
      rcases r with ⟨rfl, r⟩ | ⟨v, rfl, r⟩
      · exact ih (i + 1) ρ2 M2 hi (by omega) r
      · simp only [h3_some]
        exact r
theorem for_run {src : Src} {g : Fg} {body : Fs} {QS : Out → Sh.Env → Mem → Prop} {n : Nat} {ρ : Sh.Env} {M : Mem} (xs : List Vl) (J : Nat → Sh.Env → Mem → Prop) (j0 : J 0 ρ M) (hn : xs.length ≤ n)
    (step : ∀ i x ρ M, xs[i]? = some x → J i ρ M → src M = some xs ∧ H (g x ρ M) fun ρ1 M1 => H3 (body ρ1 M1) fun o ρ2 M2 => (o = .nx ∧ J (i + 1) ρ2 M2) ∨ ∃ v, o = .rt v ∧ QS (.rt v) ρ2 M2)
    (fin : ∀ ρ M, J xs.length ρ M → src M = some xs ∧ QS .nx ρ M) : H3 (forL src g body n 0 ρ M) QS :=
  for_ok xs J step fin n 0 ρ M (Nat.zero_le _) hn j0
theorem lc_ok {src : Src} {g : Fg} {t : Ft} {fe : Fe} {k : Nat} {ρ : Sh.Env} {Q : Mem → Prop} (xs : List Vl) (J : Nat → List Vl → Mem → Prop)
    (step : ∀ i x acc M, xs[i]? = some x → J i acc M → src M = some xs ∧ H (g x ρ M) fun ρ1 M1 => H (t ρ1 M1) fun b M2 => if b = true then H (fe ρ1 M2) fun y M3 => M3[k]? = some (.lst acc) ∧ acc.length < lim ∧ J (i + 1) (acc ++ [y]) (M3.set k (.lst (acc ++ [y]))) else J (i + 1) acc M2)
    (fin : ∀ acc M, J xs.length acc M → src M = some xs ∧ Q M) :
    ∀ (n i : Nat) (acc : List Vl) (M : Mem), i ≤ xs.length → xs.length ≤ n + i → J i acc M → LC src g t fe k ρ n i M Q := by
  intro n
  induction n with
  | zero =>
    intro i acc M hi hl j
    have hi : i = xs.length := by omega
    subst hi
    obtain ⟨f1, f2⟩ := fin acc M j
    unfold LC
    rw [lcL]
    simp only [f1, noneAt, Option.some.injEq, exists_eq_left']
    exact f2
  | succ n ih =>
    intro i acc M hi hl j
    rcases e : xs[i]? with _ | x
    · have hi : i = xs.length := by have := List.getElem?_eq_none_iff.mp e; omega
      subst hi
      obtain ⟨f1, f2⟩ := fin acc M j
      unfold LC
      rw [lcL]
      simp only [f1, noneAt, Option.some.injEq, exists_eq_left']
      exact f2
    · have hi := (List.getElem?_eq_some_iff.mp e).1
      obtain ⟨s1, ρ1, M1, e1, b, M2, e2, r⟩ := step i x acc M e j
      unfold LC
      rw [lcL]
      simp only [s1, e, e1, e2]
      cases b with
      | true =>
        rw [if_pos rfl] at r
        obtain ⟨y, M3, e3, r1, r2, r3⟩ := r
        simp only [e3, r1, if_pos r2]
        exact ih (i + 1) _ _ hi (by omega) r3
      | false =>
        rw [if_neg Bool.false_ne_true] at r
        exact ih (i + 1) acc M2 hi (by omega) r
theorem lc_run {src : Src} {g : Fg} {t : Ft} {fe : Fe} {k : Nat} {ρ : Sh.Env} {Q : Mem → Prop} {n : Nat} {M : Mem} (xs : List Vl) (J : Nat → List Vl → Mem → Prop) (j0 : J 0 [] M) (hn : xs.length ≤ n)
    (step : ∀ i x acc M, xs[i]? = some x → J i acc M → src M = some xs ∧ H (g x ρ M) fun ρ1 M1 => H (t ρ1 M1) fun b M2 => if b = true then H (fe ρ1 M2) fun y M3 => M3[k]? = some (.lst acc) ∧ acc.length < lim ∧ J (i + 1) (acc ++ [y]) (M3.set k (.lst (acc ++ [y]))) else J (i + 1) acc M2)
    (fin : ∀ acc M, J xs.length acc M → src M = some xs ∧ Q M) : LC src g t fe k ρ n 0 M Q :=
  lc_ok xs J step fin n 0 [] M (Nat.zero_le _) hn j0
theorem app_at (M N : Mem) (o : Ob) : (M ++ o :: N)[M.length]? = some o := by simp
theorem app_set (M N : Mem) (o o' : Ob) : (M ++ o :: N).set M.length o' = M ++ o' :: N := by simp
/-- a comprehension whose element only reads -/
theorem lc_map {src : Src} {i : Nat} {fe : Fe} {ρ : Sh.Env} {Q : Mem → Prop} {n : Nat} {M : Mem} {h : Vl → Vl} (xs : List Vl) (hn : xs.length ≤ n) (hx : xs.length ≤ lim)
    (hs : ∀ acc, src (M ++ [.lst acc]) = some xs)
    (he : ∀ x ∈ xs, ∀ acc, fe (ρ.set i (some x)) (M ++ [.lst acc]) = some (h x, M ++ [.lst acc]))
    (q : Q (M ++ [.lst (xs.map h)])) : LC src (gN i) tYs fe M.length ρ n 0 (M ++ [.lst []]) Q := by
  refine lc_run xs (fun j acc M' => acc = (xs.take j).map h ∧ M' = M ++ [.lst acc]) ⟨by simp, rfl⟩ hn ?_ ?_
  · rintro j x acc M' e ⟨ha, rfl⟩
    refine ⟨hs _, ?_⟩
    simp only [w_gN, w_tYs, if_pos]
    refine .of (he x (List.mem_of_getElem? e) acc) ⟨app_at _ _ _, ?_, ?_, ?_⟩
    · have := (List.getElem?_eq_some_iff.mp e).1
      rw [ha]
      simp
      omega
    · rw [ha, List.take_succ, e]
      simp
    · rw [app_set]
  · rintro acc M' ⟨ha, rfl⟩
    refine ⟨hs _, ?_⟩
    rw [ha, List.take_length]
    exact q
/-- .. with a condition that only reads -/
theorem lc_filter {src : Src} {i : Nat} {t : Ft} {fe : Fe} {ρ : Sh.Env} {Q : Mem → Prop} {n : Nat} {M : Mem} {p : Vl → Bool} {h : Vl → Vl} (xs : List Vl) (hn : xs.length ≤ n) (hx : xs.length ≤ lim)
    (hs : ∀ acc, src (M ++ [.lst acc]) = some xs)
    (ht : ∀ x ∈ xs, ∀ acc, t (ρ.set i (some x)) (M ++ [.lst acc]) = some (p x, M ++ [.lst acc]))
    (he : ∀ x ∈ xs, ∀ acc, fe (ρ.set i (some x)) (M ++ [.lst acc]) = some (h x, M ++ [.lst acc]))
    (q : Q (M ++ [.lst ((xs.filter p).map h)])) : LC src (gN i) t fe M.length ρ n 0 (M ++ [.lst []]) Q := by
  refine lc_run xs (fun j acc M' => acc = ((xs.take j).filter p).map h ∧ M' = M ++ [.lst acc]) ⟨by simp, rfl⟩ hn ?_ ?_
  · rintro j x acc M' e ⟨ha, rfl⟩
    refine ⟨hs _, ?_⟩
    have hm := List.mem_of_getElem? e
    simp only [w_gN]
    refine .of (ht x hm acc) ?_
    have hl : acc.length < lim := by
      have h1 := (List.getElem?_eq_some_iff.mp e).1
      have h2 := List.length_filter_le p (xs.take j)
      rw [List.length_take] at h2
      rw [ha, List.length_map]
      omega
    rcases hp : p x with _ | _
    · rw [if_neg Bool.false_ne_true]
      refine ⟨?_, rfl⟩
      rw [List.take_succ, e, ha]
      simp [hp]
    · rw [if_pos rfl]
      refine .of (he x hm acc) ⟨app_at _ _ _, hl, ?_, ?_⟩
      · rw [List.take_succ, e, ha]
        simp [hp]
      · rw [app_set]
  · rintro acc M' ⟨ha, rfl⟩
    refine ⟨hs _, ?_⟩
    rw [ha, List.take_length]
    exact q
end K01

set_option Elab.async false
set_option linter.all false
set_option maxRecDepth 100000
set_option maxHeartbeats 4000000
namespace K01
open PySem PySem.Spec PyProof.Rows L2 NdefX GenE Sh
/-! ### the store grows; the drawn number's cell k alone is written -/
def Held (k : Nat) (M : Mem) : Prop := ∃ h, M[k]? = some (.lst [.int h])
structure Gr (k : Nat) (M M' : Mem) : Prop where
  len : M.length ≤ M'.length
  keep : ∀ j, j ≠ k → j < M.length → M'[j]? = M[j]?
  held : Held k M'
theorem Held.lt {k : Nat} {M : Mem} (h : Held k M) : k < M.length := by
  obtain ⟨x, e⟩ := h
  exact (List.getElem?_eq_some_iff.mp e).1
theorem Gr.refl {k : Nat} {M : Mem} (h : Held k M) : Gr k M M := ⟨Nat.le_refl _, fun _ _ _ => rfl, h⟩
theorem Gr.trans {k : Nat} {M M1 M2 : Mem} (a : Gr k M M1) (b : Gr k M1 M2) : Gr k M M2 :=
  ⟨Nat.le_trans a.len b.len, fun j h1 h2 => (b.keep j h1 (Nat.lt_of_lt_of_le h2 a.len)).trans (a.keep j h1 h2), b.held⟩
theorem Held.app {k : Nat} {M N : Mem} (h : Held k M) : Held k (M ++ N) := by
  have hl := h.lt
  obtain ⟨x, e⟩ := h
  exact ⟨x, (List.getElem?_append_left hl).trans e⟩
theorem Gr.app {k : Nat} {M M' : Mem} (g : Gr k M M') (N : Mem) : Gr k M (M' ++ N) :=
  ⟨by rw [List.length_append]; have := g.len; omega, fun j h1 h2 => (List.getElem?_append_left (Nat.lt_of_lt_of_le h2 g.len)).trans (g.keep j h1 h2), g.held.app⟩
theorem Gr.set {k j : Nat} {M M' : Mem} {o : Ob} (g : Gr k M M') (hj : M.length ≤ j) (hk : j ≠ k) : Gr k M (M'.set j o) := by
  refine ⟨by rw [List.length_set]; exact g.len, fun i h1 h2 => ?_, ?_⟩
  · rw [List.getElem?_set_ne (by omega)]
    exact g.keep i h1 h2
  · obtain ⟨x, e⟩ := g.held
    exact ⟨x, by rw [List.getElem?_set_ne hk]; exact e⟩
theorem Gr.at {k j : Nat} {M M' : Mem} {o : Ob} (g : Gr k M M') (hj : j ≠ k) (e : M[j]? = some o) : M'[j]? = some o :=
  (g.keep j hj (List.getElem?_eq_some_iff.mp e).1).trans e
/-! ### things -/
def OkV (k : Nat) : Nat → Mem → Vl → Prop
  | 0, _, _ => False
  | _ + 1, _, .non => True
  | _ + 1, _, .bl _ => True
  | _ + 1, _, .int _ => True
  | _ + 1, _, .str x => PyData.strOk x = true ∧ x.length ≤ 1000
  | n + 1, M, .tup _ xs => ∀ x ∈ xs, OkV k n M x
  | n + 1, M, .ref j => j ≠ k ∧ ∃ xs, M[j]? = some (.lst xs) ∧ ∀ x ∈ xs, OkV k n M x
theorem OkV.grow {k : Nat} {M M' : Mem} (g : Gr k M M') : ∀ {n : Nat} {v : Vl}, OkV k n M v → OkV k n M' v
  | 0, _, h => h.elim
  | _ + 1, .non, h => h
  | _ + 1, .bl _, h => h
  | _ + 1, .int _, h => h
  | _ + 1, .str _, h => h
  | n + 1, .tup _ xs, h => fun x hx => OkV.grow g (h x hx)
  | n + 1, .ref j, h => ⟨h.1, by
    obtain ⟨_, xs, e, h⟩ := h
    exact ⟨xs, g.at (by assumption) e, fun x hx => OkV.grow g (h x hx)⟩⟩
theorem OkV.up {k : Nat} {M : Mem} : ∀ {n m : Nat} {v : Vl}, OkV k n M v → n ≤ m → OkV k m M v
  | 0, _, _, h, _ => h.elim
  | _ + 1, 0, _, _, h => absurd h (by omega)
  | _ + 1, _ + 1, .non, h, _ => h
  | _ + 1, _ + 1, .bl _, h, _ => h
  | _ + 1, _ + 1, .int _, h, _ => h
  | _ + 1, _ + 1, .str _, h, _ => h
  | n + 1, m + 1, .tup _ xs, h, l => fun x hx => OkV.up (h x hx) (Nat.le_of_succ_le_succ l)
  | n + 1, m + 1, .ref j, h, l => ⟨h.1, by
    obtain ⟨_, xs, e, h⟩ := h
    exact ⟨xs, e, fun x hx => OkV.up (h x hx) (Nat.le_of_succ_le_succ l)⟩⟩
theorem mapO_some {α β : Type} {g : α → Option β} : ∀ {xs : List α}, (∀ x ∈ xs, ∃ y, g x = some y) → ∃ ys, mapO g xs = some ys
  | [], _ => ⟨[], rfl⟩
  | x :: xs, h => by
    obtain ⟨y, e⟩ := h x (.head _)
    obtain ⟨ys, e'⟩ := mapO_some (xs := xs) fun z hz => h z (.tail _ hz)
    exact ⟨y :: ys, by simp only [mapO, e, e']⟩
theorem OkV.data {k : Nat} {M : Mem} : ∀ {n m : Nat} {v : Vl}, OkV k n M v → n ≤ m → ∃ d, toD m M v = some d
  | 0, _, _, h, _ => h.elim
  | _ + 1, 0, _, _, h => absurd h (by omega)
  | _ + 1, _ + 1, .non, h, _ => ⟨_, rfl⟩
  | _ + 1, _ + 1, .bl _, h, _ => ⟨_, rfl⟩
  | _ + 1, _ + 1, .int _, h, _ => ⟨_, rfl⟩
  | _ + 1, _ + 1, .str x, h, _ => ⟨.str x, by rw [toD, if_pos h.1]⟩
  | n + 1, m + 1, .tup _ xs, h, l => by
    obtain ⟨ys, e⟩ := mapO_some (g := toD m M) fun x hx => OkV.data (h x hx) (Nat.le_of_succ_le_succ l)
    exact ⟨.tuple ys, by rw [toD, e]; rfl⟩
  | n + 1, m + 1, .ref j, h, l => by
    obtain ⟨_, xs, e0, h⟩ := h
    obtain ⟨ys, e⟩ := mapO_some (g := toD m M) fun x hx => OkV.data (h x hx) (Nat.le_of_succ_le_succ l)
    exact ⟨.list ys, by rw [toD, seqAt_of e0]; simp only [e]; rfl⟩
def isS (s : Str) : Vl → Bool
  | .str x => x == s
  | _ => false
theorem OkV.side {k n : Nat} {M : Mem} {v : Vl} (h : OkV k n M v) (hn : n ≤ 20) : ∃ d, toD 20 M v = some d ∧ ∀ s, PyData.eqv d (.str s) = isS s v ∧ PyData.eqv (.str s) d = isS s v := by
  obtain ⟨d, e⟩ := h.data hn
  refine ⟨d, e, fun s => ?_⟩
  cases v with
  | non => rw [toD] at e; cases e; simp [isS, PyData.eqv]
  | bl b => rw [toD] at e; cases e; simp [isS, PyData.eqv]
  | int b => rw [toD] at e; cases e; simp [isS, PyData.eqv]
  | str x =>
    rw [toD] at e
    split at e
    · cases e
      simp only [isS, PyData.eqv, true_and]
      rw [Bool.eq_iff_iff]
      simp only [beq_iff_eq]
      exact ⟨Eq.symm, Eq.symm⟩
    · cases e
  | tup dd xs =>
    rw [toD] at e
    rcases h' : mapO (toD 19 M) xs with _ | ys
    · rw [h'] at e; cases e
    · rw [h'] at e; cases e; simp [isS, PyData.eqv]
  | ref j =>
    rw [toD] at e
    rcases h0 : seqAt M j with _ | xs
    · rw [h0] at e; cases e
    · rw [h0] at e
      simp only at e
      rcases h' : mapO (toD 19 M) xs with _ | ys
      · rw [h'] at e; cases e
      · rw [h'] at e; cases e; simp [isS, PyData.eqv]
/-! ### isinstance -/
def isStrB : Vl → Bool
  | .str _ => true
  | _ => false
def isTupV : Vl → Bool
  | .tup _ _ => true
  | _ => false
theorem isi_str {k n : Nat} {M : Mem} {v : Vl} {Q : Bool → Prop} (h : OkV k n M v) : isiR "str" M v Q = Q (isStrB v) := by
  cases v with
  | ref j =>
    cases n with
    | zero => exact h.elim
    | succ n =>
      obtain ⟨_, xs, e, _⟩ := h
      simp only [isiR, tyN, e, isStrB, show kitB "list" "str" = some false by decide +kernel]
  | _ => simp only [isiR, tyN, isStrB, show kitB "NoneType" "str" = some false by decide +kernel, show kitB "bool" "str" = some false by decide +kernel, show kitB "int" "str" = some false by decide +kernel, show kitB "str" "str" = some true by decide +kernel, show kitB "tuple" "str" = some false by decide +kernel]
theorem isi_tup {k n : Nat} {M : Mem} {v : Vl} {Q : Bool → Prop} (h : OkV k n M v) : isiR "tuple" M v Q = Q (isTupV v) := by
  cases v with
  | ref j =>
    cases n with
    | zero => exact h.elim
    | succ n =>
      obtain ⟨_, xs, e, _⟩ := h
      simp only [isiR, tyN, e, isTupV, show kitB "list" "tuple" = some false by decide +kernel]
  | _ => simp only [isiR, tyN, isTupV, show kitB "NoneType" "tuple" = some false by decide +kernel, show kitB "bool" "tuple" = some false by decide +kernel, show kitB "int" "tuple" = some false by decide +kernel, show kitB "str" "tuple" = some false by decide +kernel, show kitB "tuple" "tuple" = some true by decide +kernel]
theorem isi_bool {M : Mem} {b : Bool} {Q : Bool → Prop} : isiR "bool" M (.bl b) Q = Q true := by
  simp only [isiR, tyN, show kitB "bool" "bool" = some true by decide +kernel]
/-! ### numbers drawn -/
theorem atI0 {α : Type} {x : α} {xs : List α} : atI (x :: xs) 0 = some x := by simp [atI, ixN]
theorem atI_of {α : Type} {xs : List α} {i : Int} (h0 : 0 ≤ i) (h1 : i < xs.length) : atI xs i = xs[i.toNat]? := by
  unfold atI ixN
  rw [if_pos h0, if_pos h1]
  rfl
theorem atI_mem {α : Type} {xs : List α} {i : Int} (h0 : 0 ≤ i) (h1 : i < xs.length) : ∃ x, x ∈ xs ∧ atI xs i = some x := by
  have h : i.toNat < xs.length := by omega
  exact ⟨xs[i.toNat], List.getElem_mem h, by rw [atI_of h0 h1, List.getElem?_eq_getElem h]⟩
theorem atI1 {α : Type} {x y : α} {xs : List α} : atI (x :: y :: xs) 1 = some y := by
  rw [atI_of (by omega) (by simp; omega)]
  rfl
theorem take_ok {k : Nat} {M : Mem} {n : Int} {Q : Vl → Mem → Prop} (e : Held k M) (hn : 0 < n) (hn' : n < 1073741824)
    (q : ∀ c M', 0 ≤ c → c < n → Gr k M M' → M'.length = M.length → Q (.int c) M') : H (m_law_take [.ref k, .int n] M) Q := by
  obtain ⟨h, e⟩ := e
  have hk := (List.getElem?_eq_some_iff.mp e).1
  unfold m_law_take
  simp only [w_var, w_c, w_2, w_3, w_aNil, w_aCons, w_A, w_and, w_or, w_if, w_neg, w_isi, w_sl, w_oNone, w_oSome, w_app, w_revT, w_lenSet, w_tV, w_tAn, w_tO, w_tN, w_tYs, w_sNil, w_sCons, w_then_nx, w_then_rt, w_ret, w_ex, w_sIf, w_asg, w_gN, w_gsNil, w_gsCons, w_gT, w_run, w_out_rt, w_out_nx, w_mkT, w_mkL, w_v1, h_some, List.map_cons, List.map_nil, List.length_cons, List.length_nil, List.cons_append, List.nil_append, List.replicate, List.set_cons_zero, List.set_cons_succ, List.getElem?_cons_zero, List.getElem?_cons_succ, Nat.reduceAdd, Nat.reduceSub, Nat.reduceLeDiff, true_and, and_true, Vl.int.injEq, Vl.bl.injEq, exists_eq_left']
  rw [ix_ref e atI0, w_mod hn, ix_ref e atI0, w_div hn hn']
  simp only [gSb, eVar, eC, List.getElem?_cons_zero, e, w_var, w_c, w_2, w_3, w_aNil, w_aCons, w_A, w_and, w_or, w_if, w_neg, w_isi, w_sl, w_oNone, w_oSome, w_app, w_revT, w_lenSet, w_tV, w_tAn, w_tO, w_tN, w_tYs, w_sNil, w_sCons, w_then_nx, w_then_rt, w_ret, w_ex, w_sIf, w_asg, w_gN, w_gsNil, w_gsCons, w_gT, w_run, w_out_rt, w_out_nx, w_mkT, w_mkL, w_v1, h_some, List.map_cons, List.map_nil, List.length_cons, List.length_nil, List.cons_append, List.nil_append, List.replicate, List.set_cons_zero, List.set_cons_succ, List.getElem?_cons_zero, List.getElem?_cons_succ, Nat.reduceAdd, Nat.reduceSub, Nat.reduceLeDiff, true_and, and_true, Vl.int.injEq, Vl.bl.injEq, exists_eq_left', show ixN 1 0 = some 0 from rfl]
  refine q _ _ (Int.emod_nonneg _ (by omega)) (Int.emod_lt_of_pos _ hn) ⟨by rw [List.length_set]; exact Nat.le_refl _, fun j h1 h2 => ?_, ?_⟩ (List.length_set ..)
  · rw [List.getElem?_set_ne (Ne.symm h1)]
  · exact ⟨_, List.getElem?_set_self hk⟩
end K01

set_option Elab.async false
set_option linter.all false
set_option maxRecDepth 100000
set_option maxHeartbeats 4000000
namespace K01
open PySem PySem.Spec PyProof.Rows L2 NdefX GenE Sh
abbrev abc : Str := Str.ofString "abcdefghijklmnopqrstuvwxyz"
def inLV : Vl → Bool
  | .str s => !(Builtin.Str.occurrences abc s 0 abc.length 1).isEmpty
  | _ => false
def nmS (x : Str) : Bool := decide ((1 : Int) ≤ x.length) && (decide ((x.length : Int) ≤ 8) && (Sh.signs x).all inLV)
def nmB : Vl → Bool
  | .str x => nmS x
  | _ => false
def sideB (v : Vl) : Bool := isS (Str.ofString "+") v || isS (Str.ofString "-") v
def specB : Vl → Bool
  | .tup _ [a, b] => nmB a && sideB b
  | _ => false
theorem signs_len {z : Str} : (Sh.signs z).length = z.length := by
  unfold Sh.signs
  rw [List.length_map]
  rfl
theorem le_lim {n : Nat} (h : n ≤ 1000) : n ≤ lim := Nat.le_trans h (by decide)
theorem is_spelled_eq {x : Str} {M : Mem} (hx : x.length ≤ 1000) : m_is_spelled [.str x, .str abc, .int 8] M = some (.bl (nmS x), M) := by
  apply H.eq
  unfold m_is_spelled
  simp only [w_var, w_c, w_2, w_3, w_aNil, w_aCons, w_A, w_and, w_or, w_if, w_neg, w_isi, w_sl, w_oNone, w_oSome, w_app, w_revT, w_lenSet, w_tV, w_tAn, w_tO, w_tN, w_tYs, w_sNil, w_sCons, w_then_nx, w_then_rt, w_ret, w_ex, w_sIf, w_asg, w_gN, w_gsNil, w_gsCons, w_gT, w_run, w_out_rt, w_out_nx, w_mkT, w_mkL, w_v1, h_some, List.map_cons, List.map_nil, List.length_cons, List.length_nil, List.cons_append, List.nil_append, List.replicate, List.set_cons_zero, List.set_cons_succ, List.getElem?_cons_zero, List.getElem?_cons_succ, Nat.reduceAdd, Nat.reduceSub, Nat.reduceLeDiff, true_and, and_true, Vl.int.injEq, Vl.bl.injEq, exists_eq_left', w_allG, w_iSeq, gen0, slotE]
  rw [w_lenS (le_lim hx), w_leI]
  simp only [w_var, w_c, w_2, w_3, w_aNil, w_aCons, w_A, w_and, w_or, w_if, w_neg, w_isi, w_sl, w_oNone, w_oSome, w_app, w_revT, w_lenSet, w_tV, w_tAn, w_tO, w_tN, w_tYs, w_sNil, w_sCons, w_then_nx, w_then_rt, w_ret, w_ex, w_sIf, w_asg, w_gN, w_gsNil, w_gsCons, w_gT, w_run, w_out_rt, w_out_nx, w_mkT, w_mkL, w_v1, h_some, List.map_cons, List.map_nil, List.length_cons, List.length_nil, List.cons_append, List.nil_append, List.replicate, List.set_cons_zero, List.set_cons_succ, List.getElem?_cons_zero, List.getElem?_cons_succ, Nat.reduceAdd, Nat.reduceSub, Nat.reduceLeDiff, true_and, and_true, Vl.int.injEq, Vl.bl.injEq, exists_eq_left']
  unfold nmS
  cases decide ((1 : Int) ≤ x.length) with
  | false => simp
  | true =>
    simp only [w_var, w_c, w_2, w_3, w_aNil, w_aCons, w_A, w_and, w_or, w_if, w_neg, w_isi, w_sl, w_oNone, w_oSome, w_app, w_revT, w_lenSet, w_tV, w_tAn, w_tO, w_tN, w_tYs, w_sNil, w_sCons, w_then_nx, w_then_rt, w_ret, w_ex, w_sIf, w_asg, w_gN, w_gsNil, w_gsCons, w_gT, w_run, w_out_rt, w_out_nx, w_mkT, w_mkL, w_v1, h_some, List.map_cons, List.map_nil, List.length_cons, List.length_nil, List.cons_append, List.nil_append, List.replicate, List.set_cons_zero, List.set_cons_succ, List.getElem?_cons_zero, List.getElem?_cons_succ, Nat.reduceAdd, Nat.reduceSub, Nat.reduceLeDiff, true_and, and_true, Vl.int.injEq, Vl.bl.injEq, exists_eq_left', if_true, w_leI, Bool.true_and]
    cases decide ((x.length : Int) ≤ 8) with
    | false => simp
    | true =>
      simp only [if_true, Bool.true_and]
      refine all_run (xs := Sh.signs x) (p := inLV) rfl (fun s hs => ?_) (by rw [signs_len]; exact Nat.le_refl _) ⟨rfl, rfl⟩
      apply H.eq
      simp only [w_var, w_c, w_2, w_3, w_aNil, w_aCons, w_A, w_and, w_or, w_if, w_neg, w_isi, w_sl, w_oNone, w_oSome, w_app, w_revT, w_lenSet, w_tV, w_tAn, w_tO, w_tN, w_tYs, w_sNil, w_sCons, w_then_nx, w_then_rt, w_ret, w_ex, w_sIf, w_asg, w_gN, w_gsNil, w_gsCons, w_gT, w_run, w_out_rt, w_out_nx, w_mkT, w_mkL, w_v1, h_some, List.map_cons, List.map_nil, List.length_cons, List.length_nil, List.cons_append, List.nil_append, List.replicate, List.set_cons_zero, List.set_cons_succ, List.getElem?_cons_zero, List.getElem?_cons_succ, Nat.reduceAdd, Nat.reduceSub, Nat.reduceLeDiff, true_and, and_true, Vl.int.injEq, Vl.bl.injEq, exists_eq_left']
      unfold Sh.signs at hs
      obtain ⟨c, _, rfl⟩ := List.mem_map.mp hs
      exact .of rfl ⟨rfl, rfl⟩
theorem is_name_eq {k n : Nat} {v : Vl} {M : Mem} (h : OkV k n M v) : m_is_name [v] M = some (.bl (nmB v), M) := by
  apply H.eq
  unfold m_is_name
  simp only [w_var, w_c, w_2, w_3, w_aNil, w_aCons, w_A, w_and, w_or, w_if, w_neg, w_isi, w_sl, w_oNone, w_oSome, w_app, w_revT, w_lenSet, w_tV, w_tAn, w_tO, w_tN, w_tYs, w_sNil, w_sCons, w_then_nx, w_then_rt, w_ret, w_ex, w_sIf, w_asg, w_gN, w_gsNil, w_gsCons, w_gT, w_run, w_out_rt, w_out_nx, w_mkT, w_mkL, w_v1, h_some, List.map_cons, List.map_nil, List.length_cons, List.length_nil, List.cons_append, List.nil_append, List.replicate, List.set_cons_zero, List.set_cons_succ, List.getElem?_cons_zero, List.getElem?_cons_succ, Nat.reduceAdd, Nat.reduceSub, Nat.reduceLeDiff, true_and, and_true, Vl.int.injEq, Vl.bl.injEq, exists_eq_left']
  rw [isi_str h]
  cases n with
  | zero => exact h.elim
  | succ n =>
    cases v with
    | str x =>
      simp only [isStrB, w_var, w_c, w_2, w_3, w_aNil, w_aCons, w_A, w_and, w_or, w_if, w_neg, w_isi, w_sl, w_oNone, w_oSome, w_app, w_revT, w_lenSet, w_tV, w_tAn, w_tO, w_tN, w_tYs, w_sNil, w_sCons, w_then_nx, w_then_rt, w_ret, w_ex, w_sIf, w_asg, w_gN, w_gsNil, w_gsCons, w_gT, w_run, w_out_rt, w_out_nx, w_mkT, w_mkL, w_v1, h_some, List.map_cons, List.map_nil, List.length_cons, List.length_nil, List.cons_append, List.nil_append, List.replicate, List.set_cons_zero, List.set_cons_succ, List.getElem?_cons_zero, List.getElem?_cons_succ, Nat.reduceAdd, Nat.reduceSub, Nat.reduceLeDiff, true_and, and_true, Vl.int.injEq, Vl.bl.injEq, exists_eq_left', if_true]
      exact .of (is_spelled_eq h.2) ⟨rfl, rfl⟩
    | _ => simp [isStrB, nmB]
theorem law_name_eq {k n : Nat} {v : Vl} {M : Mem} (h : OkV k n M v) : ∃ N, m_law_name [v] M = some (.bl (nmB v), M ++ N) := by
  suffices hh : H (m_law_name [v] M) fun a b => a = .bl (nmB v) ∧ ∃ N, b = M ++ N by
    obtain ⟨a, b, e, rfl, N, rfl⟩ := hh
    exact ⟨N, e⟩
  unfold m_law_name
  simp only [w_var, w_c, w_2, w_3, w_aNil, w_aCons, w_A, w_and, w_or, w_if, w_neg, w_isi, w_sl, w_oNone, w_oSome, w_app, w_revT, w_lenSet, w_tV, w_tAn, w_tO, w_tN, w_tYs, w_sNil, w_sCons, w_then_nx, w_then_rt, w_ret, w_ex, w_sIf, w_asg, w_gN, w_gsNil, w_gsCons, w_gT, w_run, w_out_rt, w_out_nx, w_mkT, w_mkL, w_v1, h_some, List.map_cons, List.map_nil, List.length_cons, List.length_nil, List.cons_append, List.nil_append, List.replicate, List.set_cons_zero, List.set_cons_succ, List.getElem?_cons_zero, List.getElem?_cons_succ, Nat.reduceAdd, Nat.reduceSub, Nat.reduceLeDiff, true_and, and_true, Vl.int.injEq, Vl.bl.injEq, exists_eq_left', w_lc, w_iSeq, wipeE]
  rw [isi_str h]
  cases n with
  | zero => exact h.elim
  | succ n =>
    cases v with
    | str x =>
      have hl : x.length ≤ lim := le_lim h.2
      simp only [isStrB, w_var, w_c, w_2, w_3, w_aNil, w_aCons, w_A, w_and, w_or, w_if, w_neg, w_isi, w_sl, w_oNone, w_oSome, w_app, w_revT, w_lenSet, w_tV, w_tAn, w_tO, w_tN, w_tYs, w_sNil, w_sCons, w_then_nx, w_then_rt, w_ret, w_ex, w_sIf, w_asg, w_gN, w_gsNil, w_gsCons, w_gT, w_run, w_out_rt, w_out_nx, w_mkT, w_mkL, w_v1, h_some, List.map_cons, List.map_nil, List.length_cons, List.length_nil, List.cons_append, List.nil_append, List.replicate, List.set_cons_zero, List.set_cons_succ, List.getElem?_cons_zero, List.getElem?_cons_succ, Nat.reduceAdd, Nat.reduceSub, Nat.reduceLeDiff, true_and, and_true, Vl.int.injEq, Vl.bl.injEq, exists_eq_left', Bool.not_true, Bool.false_eq_true, if_false, w_lenS hl, vEq, toD, h_some, w_gtI, PyData.eqv]
      simp only [nmB, nmS]
      by_cases h0 : (x.length : Int) = 0
      · have h1 : ¬ (1 : Int) ≤ x.length := by omega
        simp [h0, h1]
      · have h1 : (1 : Int) ≤ x.length := by omega
        have h0' : ((x.length : Int) == 0) = false := by simpa using h0
        simp only [h0', Bool.false_eq_true, if_false, h1, decide_true, Bool.true_and]
        by_cases h8 : (x.length : Int) ≤ 8
        · have h8' : ¬ (8 : Int) < x.length := by omega
          simp only [h8, h8', decide_false, decide_true, Bool.false_eq_true, if_false, w_var, w_c, w_2, w_3, w_aNil, w_aCons, w_A, w_and, w_or, w_if, w_neg, w_isi, w_sl, w_oNone, w_oSome, w_app, w_revT, w_lenSet, w_tV, w_tAn, w_tO, w_tN, w_tYs, w_sNil, w_sCons, w_then_nx, w_then_rt, w_ret, w_ex, w_sIf, w_asg, w_gN, w_gsNil, w_gsCons, w_gT, w_run, w_out_rt, w_out_nx, w_mkT, w_mkL, w_v1, h_some, List.map_cons, List.map_nil, List.length_cons, List.length_nil, List.cons_append, List.nil_append, List.replicate, List.set_cons_zero, List.set_cons_succ, List.getElem?_cons_zero, List.getElem?_cons_succ, Nat.reduceAdd, Nat.reduceSub, Nat.reduceLeDiff, true_and, and_true, Vl.int.injEq, Vl.bl.injEq, exists_eq_left', Bool.true_and]
          refine lc_filter (p := fun s => !inLV s) (h := fun s => s) (Sh.signs x) (by rw [signs_len]; exact Nat.le_refl _) (by rw [signs_len]; exact hl) (fun _ => rfl) (fun s hs acc => ?_) (fun s hs acc => ?_) ?_
          · apply H.eq
            simp only [w_var, w_c, w_2, w_3, w_aNil, w_aCons, w_A, w_and, w_or, w_if, w_neg, w_isi, w_sl, w_oNone, w_oSome, w_app, w_revT, w_lenSet, w_tV, w_tAn, w_tO, w_tN, w_tYs, w_sNil, w_sCons, w_then_nx, w_then_rt, w_ret, w_ex, w_sIf, w_asg, w_gN, w_gsNil, w_gsCons, w_gT, w_run, w_out_rt, w_out_nx, w_mkT, w_mkL, w_v1, h_some, List.map_cons, List.map_nil, List.length_cons, List.length_nil, List.cons_append, List.nil_append, List.replicate, List.set_cons_zero, List.set_cons_succ, List.getElem?_cons_zero, List.getElem?_cons_succ, Nat.reduceAdd, Nat.reduceSub, Nat.reduceLeDiff, true_and, and_true, Vl.int.injEq, Vl.bl.injEq, exists_eq_left']
            unfold Sh.signs at hs
            obtain ⟨c, _, rfl⟩ := List.mem_map.mp hs
            exact .of rfl ⟨_, rfl, rfl, rfl⟩
          · apply H.eq
            simp only [w_var, w_c, w_2, w_3, w_aNil, w_aCons, w_A, w_and, w_or, w_if, w_neg, w_isi, w_sl, w_oNone, w_oSome, w_app, w_revT, w_lenSet, w_tV, w_tAn, w_tO, w_tN, w_tYs, w_sNil, w_sCons, w_then_nx, w_then_rt, w_ret, w_ex, w_sIf, w_asg, w_gN, w_gsNil, w_gsCons, w_gT, w_run, w_out_rt, w_out_nx, w_mkT, w_mkL, w_v1, h_some, List.map_cons, List.map_nil, List.length_cons, List.length_nil, List.cons_append, List.nil_append, List.replicate, List.set_cons_zero, List.set_cons_succ, List.getElem?_cons_zero, List.getElem?_cons_succ, Nat.reduceAdd, Nat.reduceSub, Nat.reduceLeDiff, true_and, and_true, Vl.int.injEq, Vl.bl.injEq, exists_eq_left']
          · rw [w_lenR (seqAt_of (app_at M [] _))]
            simp only [w_var, w_c, w_2, w_3, w_aNil, w_aCons, w_A, w_and, w_or, w_if, w_neg, w_isi, w_sl, w_oNone, w_oSome, w_app, w_revT, w_lenSet, w_tV, w_tAn, w_tO, w_tN, w_tYs, w_sNil, w_sCons, w_then_nx, w_then_rt, w_ret, w_ex, w_sIf, w_asg, w_gN, w_gsNil, w_gsCons, w_gT, w_run, w_out_rt, w_out_nx, w_mkT, w_mkL, w_v1, h_some, List.map_cons, List.map_nil, List.length_cons, List.length_nil, List.cons_append, List.nil_append, List.replicate, List.set_cons_zero, List.set_cons_succ, List.getElem?_cons_zero, List.getElem?_cons_succ, Nat.reduceAdd, Nat.reduceSub, Nat.reduceLeDiff, true_and, and_true, Vl.int.injEq, Vl.bl.injEq, exists_eq_left', toD, PyData.eqv, h_some]
            refine ⟨?_, _, rfl⟩
            congr 1
            rw [Bool.eq_iff_iff]
            simp [List.filter_eq_nil_iff, List.all_eq_true]
        · have h8' : (8 : Int) < x.length := by omega
          simp [h8, h8', w_var, w_c, w_2, w_3, w_aNil, w_aCons, w_A, w_and, w_or, w_if, w_neg, w_isi, w_sl, w_oNone, w_oSome, w_app, w_revT, w_lenSet, w_tV, w_tAn, w_tO, w_tN, w_tYs, w_sNil, w_sCons, w_then_nx, w_then_rt, w_ret, w_ex, w_sIf, w_asg, w_gN, w_gsNil, w_gsCons, w_gT, w_run, w_out_rt, w_out_nx, w_mkT, w_mkL, w_v1, h_some, List.map_cons, List.map_nil, List.length_cons, List.length_nil, List.cons_append, List.nil_append, List.replicate, List.set_cons_zero, List.set_cons_succ, List.getElem?_cons_zero, List.getElem?_cons_succ, Nat.reduceAdd, Nat.reduceSub, Nat.reduceLeDiff, true_and, and_true, Vl.int.injEq, Vl.bl.injEq, exists_eq_left']
    | _ => simp [isStrB, nmB, w_var, w_c, w_2, w_3, w_aNil, w_aCons, w_A, w_and, w_or, w_if, w_neg, w_isi, w_sl, w_oNone, w_oSome, w_app, w_revT, w_lenSet, w_tV, w_tAn, w_tO, w_tN, w_tYs, w_sNil, w_sCons, w_then_nx, w_then_rt, w_ret, w_ex, w_sIf, w_asg, w_gN, w_gsNil, w_gsCons, w_gT, w_run, w_out_rt, w_out_nx, w_mkT, w_mkL, w_v1, h_some, List.map_cons, List.map_nil, List.length_cons, List.length_nil, List.cons_append, List.nil_append, List.replicate, List.set_cons_zero, List.set_cons_succ, List.getElem?_cons_zero, List.getElem?_cons_succ, Nat.reduceAdd, Nat.reduceSub, Nat.reduceLeDiff, true_and, and_true, Vl.int.injEq, Vl.bl.injEq, exists_eq_left']
theorem is_tuple_eq {k n : Nat} {v : Vl} {M : Mem} {m : Int} (h : OkV k n M v) : m_is_tuple [v, .int m] M = some (.bl (match v with
    | .tup _ xs => ((xs.length : Int) == m)
    | _ => false), M) := by
  apply H.eq
  unfold m_is_tuple
  simp only [w_var, w_c, w_2, w_3, w_aNil, w_aCons, w_A, w_and, w_or, w_if, w_neg, w_isi, w_sl, w_oNone, w_oSome, w_app, w_revT, w_lenSet, w_tV, w_tAn, w_tO, w_tN, w_tYs, w_sNil, w_sCons, w_then_nx, w_then_rt, w_ret, w_ex, w_sIf, w_asg, w_gN, w_gsNil, w_gsCons, w_gT, w_run, w_out_rt, w_out_nx, w_mkT, w_mkL, w_v1, h_some, List.map_cons, List.map_nil, List.length_cons, List.length_nil, List.cons_append, List.nil_append, List.replicate, List.set_cons_zero, List.set_cons_succ, List.getElem?_cons_zero, List.getElem?_cons_succ, Nat.reduceAdd, Nat.reduceSub, Nat.reduceLeDiff, true_and, and_true, Vl.int.injEq, Vl.bl.injEq, exists_eq_left']
  rw [isi_tup h]
  cases v with
  | tup d xs =>
    simp only [isTupV, w_var, w_c, w_2, w_3, w_aNil, w_aCons, w_A, w_and, w_or, w_if, w_neg, w_isi, w_sl, w_oNone, w_oSome, w_app, w_revT, w_lenSet, w_tV, w_tAn, w_tO, w_tN, w_tYs, w_sNil, w_sCons, w_then_nx, w_then_rt, w_ret, w_ex, w_sIf, w_asg, w_gN, w_gsNil, w_gsCons, w_gT, w_run, w_out_rt, w_out_nx, w_mkT, w_mkL, w_v1, h_some, List.map_cons, List.map_nil, List.length_cons, List.length_nil, List.cons_append, List.nil_append, List.replicate, List.set_cons_zero, List.set_cons_succ, List.getElem?_cons_zero, List.getElem?_cons_succ, Nat.reduceAdd, Nat.reduceSub, Nat.reduceLeDiff, true_and, and_true, Vl.int.injEq, Vl.bl.injEq, exists_eq_left', if_true, w_lenT, vEq, toD, h_some, PyData.eqv]
  | _ => simp [isTupV, w_var, w_c, w_2, w_3, w_aNil, w_aCons, w_A, w_and, w_or, w_if, w_neg, w_isi, w_sl, w_oNone, w_oSome, w_app, w_revT, w_lenSet, w_tV, w_tAn, w_tO, w_tN, w_tYs, w_sNil, w_sCons, w_then_nx, w_then_rt, w_ret, w_ex, w_sIf, w_asg, w_gN, w_gsNil, w_gsCons, w_gT, w_run, w_out_rt, w_out_nx, w_mkT, w_mkL, w_v1, h_some, List.map_cons, List.map_nil, List.length_cons, List.length_nil, List.cons_append, List.nil_append, List.replicate, List.set_cons_zero, List.set_cons_succ, List.getElem?_cons_zero, List.getElem?_cons_succ, Nat.reduceAdd, Nat.reduceSub, Nat.reduceLeDiff, true_and, and_true, Vl.int.injEq, Vl.bl.injEq, exists_eq_left']
theorem two_of {xs : List Vl} (h : ((xs.length : Int) == 2) = true) : ∃ a b, xs = [a, b] := by
  simp at h
  match xs, h with
  | [a, b], _ => exact ⟨a, b, rfl⟩
  | [], h => simp at h
  | [_], h => simp at h
  | _ :: _ :: _ :: _, h => simp at h; omega
theorem not_two {d : Bool} {xs : List Vl} (h : ((xs.length : Int) == 2) = false) : specB (.tup d xs) = false := by
  unfold specB
  split
  · rename_i e
    cases e
    simp at h
  · rfl
theorem in_side {k n : Nat} {M : Mem} {v : Vl} {Q : Vl → Mem → Prop} (h : OkV k n M v) (hn : n ≤ 20) : H (vIn v (.tup false [.str (Str.ofString "+"), .str (Str.ofString "-")]) M) Q = Q (.bl (sideB v)) M := by
  obtain ⟨d, e, hd⟩ := h.side hn
  have ep : toD 20 M (.tup false [.str (Str.ofString "+"), .str (Str.ofString "-")]) = some (.tuple [.str (Str.ofString "+"), .str (Str.ofString "-")]) := by
    simp only [toD, mapO, show PyData.strOk (Str.ofString "+") = true by decide +kernel, show PyData.strOk (Str.ofString "-") = true by decide +kernel, if_true, Option.map_some]
  have ei : inOf M v (.tup false [.str (Str.ofString "+"), .str (Str.ofString "-")]) = some (sideB v) := by
    cases v <;> simp only [inOf, e, ep, List.any_cons, List.any_nil, Bool.or_false, (hd _).2, sideB]
  unfold vIn
  rw [ei]
  exact h_some
theorem eq_side {k n : Nat} {M : Mem} {v : Vl} {x : Str} {Q : Vl → Mem → Prop} (h : OkV k n M v) (hn : n ≤ 20) (hx : PyData.strOk x = true) : H (vEq v (.str x) M) Q = Q (.bl (isS x v)) M := by
  obtain ⟨d, e, hd⟩ := h.side hn
  unfold vEq
  rw [e]
  simp only [toD, hx, if_true, (hd x).1]
  exact h_some
theorem is_spec_eq {k n : Nat} {v : Vl} {M : Mem} (h : OkV k n M v) (hn : n ≤ 20) : m_is_spec [v] M = some (.bl (specB v), M) := by
  apply H.eq
  unfold m_is_spec
  simp only [w_var, w_c, w_2, w_3, w_aNil, w_aCons, w_A, w_and, w_or, w_if, w_neg, w_isi, w_sl, w_oNone, w_oSome, w_app, w_revT, w_lenSet, w_tV, w_tAn, w_tO, w_tN, w_tYs, w_sNil, w_sCons, w_then_nx, w_then_rt, w_ret, w_ex, w_sIf, w_asg, w_gN, w_gsNil, w_gsCons, w_gT, w_run, w_out_rt, w_out_nx, w_mkT, w_mkL, w_v1, h_some, List.map_cons, List.map_nil, List.length_cons, List.length_nil, List.cons_append, List.nil_append, List.replicate, List.set_cons_zero, List.set_cons_succ, List.getElem?_cons_zero, List.getElem?_cons_succ, Nat.reduceAdd, Nat.reduceSub, Nat.reduceLeDiff, true_and, and_true, Vl.int.injEq, Vl.bl.injEq, exists_eq_left']
  refine .of (is_tuple_eq h) ?_
  cases v with
  | tup d xs =>
    simp only [w_var, w_c, w_2, w_3, w_aNil, w_aCons, w_A, w_and, w_or, w_if, w_neg, w_isi, w_sl, w_oNone, w_oSome, w_app, w_revT, w_lenSet, w_tV, w_tAn, w_tO, w_tN, w_tYs, w_sNil, w_sCons, w_then_nx, w_then_rt, w_ret, w_ex, w_sIf, w_asg, w_gN, w_gsNil, w_gsCons, w_gT, w_run, w_out_rt, w_out_nx, w_mkT, w_mkL, w_v1, h_some, List.map_cons, List.map_nil, List.length_cons, List.length_nil, List.cons_append, List.nil_append, List.replicate, List.set_cons_zero, List.set_cons_succ, List.getElem?_cons_zero, List.getElem?_cons_succ, Nat.reduceAdd, Nat.reduceSub, Nat.reduceLeDiff, true_and, and_true, Vl.int.injEq, Vl.bl.injEq, exists_eq_left']
    cases h2 : ((xs.length : Int) == 2) with
    | false =>
      simp [not_two h2]
    | true =>
      obtain ⟨a, b, rfl⟩ := two_of h2
      cases n with
      | zero => exact h.elim
      | succ n =>
        have ha : OkV k n M a := h a (by simp)
        have hb : OkV k n M b := h b (by simp)
        simp only [if_true, ix_tup atI0]
        refine .of (is_name_eq ha) ?_
        simp only [w_var, w_c, w_2, w_3, w_aNil, w_aCons, w_A, w_and, w_or, w_if, w_neg, w_isi, w_sl, w_oNone, w_oSome, w_app, w_revT, w_lenSet, w_tV, w_tAn, w_tO, w_tN, w_tYs, w_sNil, w_sCons, w_then_nx, w_then_rt, w_ret, w_ex, w_sIf, w_asg, w_gN, w_gsNil, w_gsCons, w_gT, w_run, w_out_rt, w_out_nx, w_mkT, w_mkL, w_v1, h_some, List.map_cons, List.map_nil, List.length_cons, List.length_nil, List.cons_append, List.nil_append, List.replicate, List.set_cons_zero, List.set_cons_succ, List.getElem?_cons_zero, List.getElem?_cons_succ, Nat.reduceAdd, Nat.reduceSub, Nat.reduceLeDiff, true_and, and_true, Vl.int.injEq, Vl.bl.injEq, exists_eq_left', ix_tup atI1, in_side hb (by omega), specB]
        cases nmB a <;> simp
  | _ => simp [specB]
theorem law_spec_eq {k n : Nat} {v : Vl} {M : Mem} (h : OkV k n M v) (hn : n ≤ 20) (hk : Held k M) : ∃ N, m_law_spec [v] M = some (.bl (specB v), M ++ N) := by
  suffices hh : H (m_law_spec [v] M) fun a b => a = .bl (specB v) ∧ ∃ N, b = M ++ N by
    obtain ⟨a, b, e, rfl, N, rfl⟩ := hh
    exact ⟨N, e⟩
  unfold m_law_spec
  simp only [w_var, w_c, w_2, w_3, w_aNil, w_aCons, w_A, w_and, w_or, w_if, w_neg, w_isi, w_sl, w_oNone, w_oSome, w_app, w_revT, w_lenSet, w_tV, w_tAn, w_tO, w_tN, w_tYs, w_sNil, w_sCons, w_then_nx, w_then_rt, w_ret, w_ex, w_sIf, w_asg, w_gN, w_gsNil, w_gsCons, w_gT, w_run, w_out_rt, w_out_nx, w_mkT, w_mkL, w_v1, h_some, List.map_cons, List.map_nil, List.length_cons, List.length_nil, List.cons_append, List.nil_append, List.replicate, List.set_cons_zero, List.set_cons_succ, List.getElem?_cons_zero, List.getElem?_cons_succ, Nat.reduceAdd, Nat.reduceSub, Nat.reduceLeDiff, true_and, and_true, Vl.int.injEq, Vl.bl.injEq, exists_eq_left']
  rw [isi_tup h]
  cases v with
  | tup d xs =>
    simp only [isTupV, Bool.not_true, Bool.false_eq_true, if_false, w_lenT, vNe, toD, h_some, PyData.eqv, w_var, w_c, w_2, w_3, w_aNil, w_aCons, w_A, w_and, w_or, w_if, w_neg, w_isi, w_sl, w_oNone, w_oSome, w_app, w_revT, w_lenSet, w_tV, w_tAn, w_tO, w_tN, w_tYs, w_sNil, w_sCons, w_then_nx, w_then_rt, w_ret, w_ex, w_sIf, w_asg, w_gN, w_gsNil, w_gsCons, w_gT, w_run, w_out_rt, w_out_nx, w_mkT, w_mkL, w_v1, h_some, List.map_cons, List.map_nil, List.length_cons, List.length_nil, List.cons_append, List.nil_append, List.replicate, List.set_cons_zero, List.set_cons_succ, List.getElem?_cons_zero, List.getElem?_cons_succ, Nat.reduceAdd, Nat.reduceSub, Nat.reduceLeDiff, true_and, and_true, Vl.int.injEq, Vl.bl.injEq, exists_eq_left']
    cases h2 : ((xs.length : Int) == 2) with
    | false =>
      simp [not_two h2, w_var, w_c, w_2, w_3, w_aNil, w_aCons, w_A, w_and, w_or, w_if, w_neg, w_isi, w_sl, w_oNone, w_oSome, w_app, w_revT, w_lenSet, w_tV, w_tAn, w_tO, w_tN, w_tYs, w_sNil, w_sCons, w_then_nx, w_then_rt, w_ret, w_ex, w_sIf, w_asg, w_gN, w_gsNil, w_gsCons, w_gT, w_run, w_out_rt, w_out_nx, w_mkT, w_mkL, w_v1, h_some, List.map_cons, List.map_nil, List.length_cons, List.length_nil, List.cons_append, List.nil_append, List.replicate, List.set_cons_zero, List.set_cons_succ, List.getElem?_cons_zero, List.getElem?_cons_succ, Nat.reduceAdd, Nat.reduceSub, Nat.reduceLeDiff, true_and, and_true, Vl.int.injEq, Vl.bl.injEq, exists_eq_left']
    | true =>
      obtain ⟨a, b, rfl⟩ := two_of h2
      cases n with
      | zero => exact h.elim
      | succ n =>
        have ha : OkV k n M a := h a (by simp)
        have hb : OkV k n M b := h b (by simp)
        simp only [Bool.not_true, Bool.false_eq_true, if_false, ix_tup atI0]
        obtain ⟨N, e⟩ := law_name_eq ha
        refine .of e ?_
        have hb' : OkV k n (M ++ N) b := hb.grow ((Gr.refl hk).app N)
        simp only [w_var, w_c, w_2, w_3, w_aNil, w_aCons, w_A, w_and, w_or, w_if, w_neg, w_isi, w_sl, w_oNone, w_oSome, w_app, w_revT, w_lenSet, w_tV, w_tAn, w_tO, w_tN, w_tYs, w_sNil, w_sCons, w_then_nx, w_then_rt, w_ret, w_ex, w_sIf, w_asg, w_gN, w_gsNil, w_gsCons, w_gT, w_run, w_out_rt, w_out_nx, w_mkT, w_mkL, w_v1, h_some, List.map_cons, List.map_nil, List.length_cons, List.length_nil, List.cons_append, List.nil_append, List.replicate, List.set_cons_zero, List.set_cons_succ, List.getElem?_cons_zero, List.getElem?_cons_succ, Nat.reduceAdd, Nat.reduceSub, Nat.reduceLeDiff, true_and, and_true, Vl.int.injEq, Vl.bl.injEq, exists_eq_left', ix_tup atI1, specB, eq_side hb' (by omega : n ≤ 20) (show PyData.strOk (Str.ofString "+") = true by decide +kernel), eq_side hb' (by omega : n ≤ 20) (show PyData.strOk (Str.ofString "-") = true by decide +kernel)]
        unfold sideB
        cases nmB a <;> cases isS (Str.ofString "+") b <;> simp
  | _ => simp [isTupV, specB, w_var, w_c, w_2, w_3, w_aNil, w_aCons, w_A, w_and, w_or, w_if, w_neg, w_isi, w_sl, w_oNone, w_oSome, w_app, w_revT, w_lenSet, w_tV, w_tAn, w_tO, w_tN, w_tYs, w_sNil, w_sCons, w_then_nx, w_then_rt, w_ret, w_ex, w_sIf, w_asg, w_gN, w_gsNil, w_gsCons, w_gT, w_run, w_out_rt, w_out_nx, w_mkT, w_mkL, w_v1, h_some, List.map_cons, List.map_nil, List.length_cons, List.length_nil, List.cons_append, List.nil_append, List.replicate, List.set_cons_zero, List.set_cons_succ, List.getElem?_cons_zero, List.getElem?_cons_succ, Nat.reduceAdd, Nat.reduceSub, Nat.reduceLeDiff, true_and, and_true, Vl.int.injEq, Vl.bl.injEq, exists_eq_left']
end K01

set_option Elab.async false
set_option linter.all false
set_option maxRecDepth 100000
set_option maxHeartbeats 4000000
namespace K01
open PySem PySem.Spec PyProof.Rows L2 NdefX GenE Sh
def specsB : Vl → Bool
  | .tup _ ps => ps.all specB
  | _ => false
def fewB : Vl → Bool
  | .tup _ ps => decide ((1 : Int) ≤ ps.length) && decide ((ps.length : Int) ≤ 4)
  | _ => false
def entryB : Vl → Bool
  | .tup _ [a, b] => nmB a && (specsB b && fewB b)
  | _ => false
theorem not_two' {d : Bool} {xs : List Vl} (h : ((xs.length : Int) == 2) = false) : entryB (.tup d xs) = false := by
  unfold entryB
  split
  · rename_i e
    cases e
    simp at h
  · rfl
theorem are_specs_eq {k n : Nat} {v : Vl} {M : Mem} (h : OkV k n M v) (hn : n ≤ 20) : m_are_specs [v] M = some (.bl (specsB v), M) := by
  apply H.eq
  unfold m_are_specs
  simp only [w_var, w_c, w_2, w_3, w_aNil, w_aCons, w_A, w_and, w_or, w_if, w_neg, w_isi, w_sl, w_oNone, w_oSome, w_app, w_revT, w_lenSet, w_tV, w_tAn, w_tO, w_tN, w_tYs, w_sNil, w_sCons, w_then_nx, w_then_rt, w_ret, w_ex, w_sIf, w_asg, w_gN, w_gsNil, w_gsCons, w_gT, w_run, w_out_rt, w_out_nx, w_mkT, w_mkL, w_v1, h_some, List.map_cons, List.map_nil, List.length_cons, List.length_nil, List.cons_append, List.nil_append, List.replicate, List.set_cons_zero, List.set_cons_succ, List.getElem?_cons_zero, List.getElem?_cons_succ, Nat.reduceAdd, Nat.reduceSub, Nat.reduceLeDiff, true_and, and_true, Vl.int.injEq, Vl.bl.injEq, exists_eq_left', w_allG, w_iSeq, gen0, slotE]
  rw [isi_tup h]
  cases v with
  | tup d xs =>
    simp only [isTupV, w_var, w_c, w_2, w_3, w_aNil, w_aCons, w_A, w_and, w_or, w_if, w_neg, w_isi, w_sl, w_oNone, w_oSome, w_app, w_revT, w_lenSet, w_tV, w_tAn, w_tO, w_tN, w_tYs, w_sNil, w_sCons, w_then_nx, w_then_rt, w_ret, w_ex, w_sIf, w_asg, w_gN, w_gsNil, w_gsCons, w_gT, w_run, w_out_rt, w_out_nx, w_mkT, w_mkL, w_v1, h_some, List.map_cons, List.map_nil, List.length_cons, List.length_nil, List.cons_append, List.nil_append, List.replicate, List.set_cons_zero, List.set_cons_succ, List.getElem?_cons_zero, List.getElem?_cons_succ, Nat.reduceAdd, Nat.reduceSub, Nat.reduceLeDiff, true_and, and_true, Vl.int.injEq, Vl.bl.injEq, exists_eq_left', if_true, specsB]
    cases n with
    | zero => exact h.elim
    | succ n =>
      refine all_run (xs := xs) (p := specB) rfl (fun s hs => ?_) (Nat.le_refl _) ⟨rfl, rfl⟩
      apply H.eq
      simp only [w_var, w_c, w_2, w_3, w_aNil, w_aCons, w_A, w_and, w_or, w_if, w_neg, w_isi, w_sl, w_oNone, w_oSome, w_app, w_revT, w_lenSet, w_tV, w_tAn, w_tO, w_tN, w_tYs, w_sNil, w_sCons, w_then_nx, w_then_rt, w_ret, w_ex, w_sIf, w_asg, w_gN, w_gsNil, w_gsCons, w_gT, w_run, w_out_rt, w_out_nx, w_mkT, w_mkL, w_v1, h_some, List.map_cons, List.map_nil, List.length_cons, List.length_nil, List.cons_append, List.nil_append, List.replicate, List.set_cons_zero, List.set_cons_succ, List.getElem?_cons_zero, List.getElem?_cons_succ, Nat.reduceAdd, Nat.reduceSub, Nat.reduceLeDiff, true_and, and_true, Vl.int.injEq, Vl.bl.injEq, exists_eq_left']
      exact .of (is_spec_eq (h s hs) (by omega)) ⟨rfl, rfl⟩
  | _ => simp [isTupV, specsB]
theorem is_entry_eq {k n : Nat} {v : Vl} {M : Mem} (h : OkV k n M v) (hn : n ≤ 20) : m_is_entry [v] M = some (.bl (entryB v), M) := by
  apply H.eq
  unfold m_is_entry
  simp only [w_var, w_c, w_2, w_3, w_aNil, w_aCons, w_A, w_and, w_or, w_if, w_neg, w_isi, w_sl, w_oNone, w_oSome, w_app, w_revT, w_lenSet, w_tV, w_tAn, w_tO, w_tN, w_tYs, w_sNil, w_sCons, w_then_nx, w_then_rt, w_ret, w_ex, w_sIf, w_asg, w_gN, w_gsNil, w_gsCons, w_gT, w_run, w_out_rt, w_out_nx, w_mkT, w_mkL, w_v1, h_some, List.map_cons, List.map_nil, List.length_cons, List.length_nil, List.cons_append, List.nil_append, List.replicate, List.set_cons_zero, List.set_cons_succ, List.getElem?_cons_zero, List.getElem?_cons_succ, Nat.reduceAdd, Nat.reduceSub, Nat.reduceLeDiff, true_and, and_true, Vl.int.injEq, Vl.bl.injEq, exists_eq_left']
  refine .of (is_tuple_eq h) ?_
  cases v with
  | tup d xs =>
    simp only [w_var, w_c, w_2, w_3, w_aNil, w_aCons, w_A, w_and, w_or, w_if, w_neg, w_isi, w_sl, w_oNone, w_oSome, w_app, w_revT, w_lenSet, w_tV, w_tAn, w_tO, w_tN, w_tYs, w_sNil, w_sCons, w_then_nx, w_then_rt, w_ret, w_ex, w_sIf, w_asg, w_gN, w_gsNil, w_gsCons, w_gT, w_run, w_out_rt, w_out_nx, w_mkT, w_mkL, w_v1, h_some, List.map_cons, List.map_nil, List.length_cons, List.length_nil, List.cons_append, List.nil_append, List.replicate, List.set_cons_zero, List.set_cons_succ, List.getElem?_cons_zero, List.getElem?_cons_succ, Nat.reduceAdd, Nat.reduceSub, Nat.reduceLeDiff, true_and, and_true, Vl.int.injEq, Vl.bl.injEq, exists_eq_left']
    cases h2 : ((xs.length : Int) == 2) with
    | false => simp [not_two' h2, w_var, w_c, w_2, w_3, w_aNil, w_aCons, w_A, w_and, w_or, w_if, w_neg, w_isi, w_sl, w_oNone, w_oSome, w_app, w_revT, w_lenSet, w_tV, w_tAn, w_tO, w_tN, w_tYs, w_sNil, w_sCons, w_then_nx, w_then_rt, w_ret, w_ex, w_sIf, w_asg, w_gN, w_gsNil, w_gsCons, w_gT, w_run, w_out_rt, w_out_nx, w_mkT, w_mkL, w_v1, h_some, List.map_cons, List.map_nil, List.length_cons, List.length_nil, List.cons_append, List.nil_append, List.replicate, List.set_cons_zero, List.set_cons_succ, List.getElem?_cons_zero, List.getElem?_cons_succ, Nat.reduceAdd, Nat.reduceSub, Nat.reduceLeDiff, true_and, and_true, Vl.int.injEq, Vl.bl.injEq, exists_eq_left']
    | true =>
      obtain ⟨a, b, rfl⟩ := two_of h2
      cases n with
      | zero => exact h.elim
      | succ n =>
        have ha : OkV k n M a := h a (by simp)
        have hb : OkV k n M b := h b (by simp)
        simp only [Bool.not_true, Bool.false_eq_true, if_false, w_var, w_c, w_2, w_3, w_aNil, w_aCons, w_A, w_and, w_or, w_if, w_neg, w_isi, w_sl, w_oNone, w_oSome, w_app, w_revT, w_lenSet, w_tV, w_tAn, w_tO, w_tN, w_tYs, w_sNil, w_sCons, w_then_nx, w_then_rt, w_ret, w_ex, w_sIf, w_asg, w_gN, w_gsNil, w_gsCons, w_gT, w_run, w_out_rt, w_out_nx, w_mkT, w_mkL, w_v1, h_some, List.map_cons, List.map_nil, List.length_cons, List.length_nil, List.cons_append, List.nil_append, List.replicate, List.set_cons_zero, List.set_cons_succ, List.getElem?_cons_zero, List.getElem?_cons_succ, Nat.reduceAdd, Nat.reduceSub, Nat.reduceLeDiff, true_and, and_true, Vl.int.injEq, Vl.bl.injEq, exists_eq_left']
        refine .of (is_name_eq ha) ?_
        simp only [w_var, w_c, w_2, w_3, w_aNil, w_aCons, w_A, w_and, w_or, w_if, w_neg, w_isi, w_sl, w_oNone, w_oSome, w_app, w_revT, w_lenSet, w_tV, w_tAn, w_tO, w_tN, w_tYs, w_sNil, w_sCons, w_then_nx, w_then_rt, w_ret, w_ex, w_sIf, w_asg, w_gN, w_gsNil, w_gsCons, w_gT, w_run, w_out_rt, w_out_nx, w_mkT, w_mkL, w_v1, h_some, List.map_cons, List.map_nil, List.length_cons, List.length_nil, List.cons_append, List.nil_append, List.replicate, List.set_cons_zero, List.set_cons_succ, List.getElem?_cons_zero, List.getElem?_cons_succ, Nat.reduceAdd, Nat.reduceSub, Nat.reduceLeDiff, true_and, and_true, Vl.int.injEq, Vl.bl.injEq, exists_eq_left', entryB]
        cases nmB a with
        | false => simp
        | true =>
          simp only [if_true, Bool.true_and]
          refine .of (are_specs_eq hb (by omega)) ?_
          simp only [w_var, w_c, w_2, w_3, w_aNil, w_aCons, w_A, w_and, w_or, w_if, w_neg, w_isi, w_sl, w_oNone, w_oSome, w_app, w_revT, w_lenSet, w_tV, w_tAn, w_tO, w_tN, w_tYs, w_sNil, w_sCons, w_then_nx, w_then_rt, w_ret, w_ex, w_sIf, w_asg, w_gN, w_gsNil, w_gsCons, w_gT, w_run, w_out_rt, w_out_nx, w_mkT, w_mkL, w_v1, h_some, List.map_cons, List.map_nil, List.length_cons, List.length_nil, List.cons_append, List.nil_append, List.replicate, List.set_cons_zero, List.set_cons_succ, List.getElem?_cons_zero, List.getElem?_cons_succ, Nat.reduceAdd, Nat.reduceSub, Nat.reduceLeDiff, true_and, and_true, Vl.int.injEq, Vl.bl.injEq, exists_eq_left']
          cases hs : specsB b with
          | false => simp
          | true =>
            simp only [if_true, Bool.true_and]
            cases b with
            | tup d' ps =>
              simp only [w_lenT, w_leI, w_var, w_c, w_2, w_3, w_aNil, w_aCons, w_A, w_and, w_or, w_if, w_neg, w_isi, w_sl, w_oNone, w_oSome, w_app, w_revT, w_lenSet, w_tV, w_tAn, w_tO, w_tN, w_tYs, w_sNil, w_sCons, w_then_nx, w_then_rt, w_ret, w_ex, w_sIf, w_asg, w_gN, w_gsNil, w_gsCons, w_gT, w_run, w_out_rt, w_out_nx, w_mkT, w_mkL, w_v1, h_some, List.map_cons, List.map_nil, List.length_cons, List.length_nil, List.cons_append, List.nil_append, List.replicate, List.set_cons_zero, List.set_cons_succ, List.getElem?_cons_zero, List.getElem?_cons_succ, Nat.reduceAdd, Nat.reduceSub, Nat.reduceLeDiff, true_and, and_true, Vl.int.injEq, Vl.bl.injEq, exists_eq_left', fewB]
              cases decide ((1 : Int) ≤ ps.length) <;> simp
            | _ => simp [specsB] at hs
  | _ => simp [entryB, w_var, w_c, w_2, w_3, w_aNil, w_aCons, w_A, w_and, w_or, w_if, w_neg, w_isi, w_sl, w_oNone, w_oSome, w_app, w_revT, w_lenSet, w_tV, w_tAn, w_tO, w_tN, w_tYs, w_sNil, w_sCons, w_then_nx, w_then_rt, w_ret, w_ex, w_sIf, w_asg, w_gN, w_gsNil, w_gsCons, w_gT, w_run, w_out_rt, w_out_nx, w_mkT, w_mkL, w_v1, h_some, List.map_cons, List.map_nil, List.length_cons, List.length_nil, List.cons_append, List.nil_append, List.replicate, List.set_cons_zero, List.set_cons_succ, List.getElem?_cons_zero, List.getElem?_cons_succ, Nat.reduceAdd, Nat.reduceSub, Nat.reduceLeDiff, true_and, and_true, Vl.int.injEq, Vl.bl.injEq, exists_eq_left']
/-! ### rising -/
abbrev SLt (a b : Str) : Prop := a.cps.toList < b.cps.toList
def stepB (ks : List Str) : Vl → Bool
  | .int i => decide (SLt (ks.getD i.toNat ⟨#[]⟩) (ks.getD (i.toNat + 1) ⟨#[]⟩))
  | _ => false
def riseB (ks : List Str) : Bool := (rng 0 (ks.length - 1)).all (stepB ks)
theorem rises_eq {M : Mem} {j : Nat} {ks : List Str} (e : M[j]? = some (.lst (ks.map .str))) (hl : ks.length ≤ 1000) : m_rises [.ref j] M = some (.bl (riseB ks), M) := by
  apply H.eq
  unfold m_rises
  simp only [w_var, w_c, w_2, w_3, w_aNil, w_aCons, w_A, w_and, w_or, w_if, w_neg, w_isi, w_sl, w_oNone, w_oSome, w_app, w_revT, w_lenSet, w_tV, w_tAn, w_tO, w_tN, w_tYs, w_sNil, w_sCons, w_then_nx, w_then_rt, w_ret, w_ex, w_sIf, w_asg, w_gN, w_gsNil, w_gsCons, w_gT, w_run, w_out_rt, w_out_nx, w_mkT, w_mkL, w_v1, h_some, List.map_cons, List.map_nil, List.length_cons, List.length_nil, List.cons_append, List.nil_append, List.replicate, List.set_cons_zero, List.set_cons_succ, List.getElem?_cons_zero, List.getElem?_cons_succ, Nat.reduceAdd, Nat.reduceSub, Nat.reduceLeDiff, true_and, and_true, Vl.int.injEq, Vl.bl.injEq, exists_eq_left', w_allG, w_iR1, gen0, slotE]
  rw [w_lenR (seqAt_of e), w_subI]
  simp only [w_var, w_c, w_2, w_3, w_aNil, w_aCons, w_A, w_and, w_or, w_if, w_neg, w_isi, w_sl, w_oNone, w_oSome, w_app, w_revT, w_lenSet, w_tV, w_tAn, w_tO, w_tN, w_tYs, w_sNil, w_sCons, w_then_nx, w_then_rt, w_ret, w_ex, w_sIf, w_asg, w_gN, w_gsNil, w_gsCons, w_gT, w_run, w_out_rt, w_out_nx, w_mkT, w_mkL, w_v1, h_some, List.map_cons, List.map_nil, List.length_cons, List.length_nil, List.cons_append, List.nil_append, List.replicate, List.set_cons_zero, List.set_cons_succ, List.getElem?_cons_zero, List.getElem?_cons_succ, Nat.reduceAdd, Nat.reduceSub, Nat.reduceLeDiff, true_and, and_true, Vl.int.injEq, Vl.bl.injEq, exists_eq_left', List.length_map]
  refine ⟨by constructor <;> omega, ?_⟩
  have hn : ((ks.length : Int) - 1).toNat = ks.length - 1 := by omega
  rw [hn]
  refine all_run (xs := rng 0 (ks.length - 1)) (p := stepB ks) rfl (fun s hs => ?_) (by simp [rng]) ⟨rfl, rfl⟩
  unfold rng at hs
  obtain ⟨i, hi, rfl⟩ := List.mem_map.mp hs
  have hi := List.mem_range.mp hi
  apply H.eq
  simp only [w_var, w_c, w_2, w_3, w_aNil, w_aCons, w_A, w_and, w_or, w_if, w_neg, w_isi, w_sl, w_oNone, w_oSome, w_app, w_revT, w_lenSet, w_tV, w_tAn, w_tO, w_tN, w_tYs, w_sNil, w_sCons, w_then_nx, w_then_rt, w_ret, w_ex, w_sIf, w_asg, w_gN, w_gsNil, w_gsCons, w_gT, w_run, w_out_rt, w_out_nx, w_mkT, w_mkL, w_v1, h_some, List.map_cons, List.map_nil, List.length_cons, List.length_nil, List.cons_append, List.nil_append, List.replicate, List.set_cons_zero, List.set_cons_succ, List.getElem?_cons_zero, List.getElem?_cons_succ, Nat.reduceAdd, Nat.reduceSub, Nat.reduceLeDiff, true_and, and_true, Vl.int.injEq, Vl.bl.injEq, exists_eq_left', Int.zero_add]
  have h1 : i < ks.length := by omega
  have h2 : i + 1 < ks.length := by omega
  have e1 : atI (ks.map Vl.str) (i : Int) = some (.str ks[i]) := by
    rw [atI_of (by omega) (by rw [List.length_map]; omega)]
    simp [h1]
  have e2 : atI (ks.map Vl.str) ((i : Int) + 1) = some (.str ks[i + 1]) := by
    rw [atI_of (by omega) (by rw [List.length_map]; omega)]
    have : ((i : Int) + 1).toNat = i + 1 := by omega
    rw [this]
    simp [h2]
  rw [ix_ref e e1, w_addI, ix_ref e e2]
  refine .of rfl ⟨?_, rfl⟩
  simp [stepB, h1, h2]
theorem rise_iff {ks : List Str} : riseB ks = true ↔ ks.Pairwise SLt := by
  unfold riseB rng
  rw [List.all_map, List.all_eq_true, List.pairwise_iff_getElem]
  constructor
  · intro h
    have step : ∀ i (h2 : i + 1 < ks.length), SLt ks[i] ks[i + 1] := fun i h2 => by
      have := h i (List.mem_range.mpr (by omega))
      simpa [stepB, h2, show i < ks.length by omega] using this
    intro i j hi hj hij
    obtain ⟨d, rfl⟩ : ∃ d, j = i + 1 + d := ⟨j - (i + 1), by omega⟩
    induction d with
    | zero => exact step i hj
    | succ d ih => exact List.lt_trans (ih (by omega) (by omega)) (step (i + 1 + d) hj)
  · intro h i hi
    have hi := List.mem_range.mp hi
    have := h i (i + 1) (by omega) (by omega) (by omega)
    simpa [stepB, show i < ks.length by omega, show i + 1 < ks.length by omega] using this
/-! ### sets of texts -/
theorem met_le : ∀ (xs l : List Str), (xs.foldl SetS.stp l).length ≤ l.length + xs.length
  | [], l => by simp
  | x :: xs, l => by
    rw [List.foldl_cons]
    have h1 : (SetS.stp l x).length ≤ l.length + 1 := by
      unfold SetS.stp
      split <;> simp
    have h2 := met_le xs (SetS.stp l x)
    simp only [List.length_cons]
    omega
theorem met_all : ∀ (xs l : List Str), (xs.foldl SetS.stp l).length = l.length + xs.length → (∀ x ∈ xs, x ∉ l) ∧ xs.Nodup
  | [], l, _ => ⟨fun _ h => by simp at h, List.nodup_nil⟩
  | x :: xs, l, h => by
    rw [List.foldl_cons] at h
    by_cases hx : l.any (· == x) = true
    · have e : SetS.stp l x = l := by simp only [SetS.stp, hx, if_true]
      rw [e] at h
      have := met_le xs l
      simp only [List.length_cons] at h
      omega
    · have e : SetS.stp l x = l ++ [x] := by
        unfold SetS.stp
        rw [if_neg hx]
      rw [e] at h
      obtain ⟨a, b⟩ := met_all xs (l ++ [x]) (by simp only [List.length_cons, List.length_append, List.length_nil] at h ⊢; omega)
      have hx' : x ∉ l := fun q => hx (List.any_eq_true.mpr ⟨x, q, by simp⟩)
      refine ⟨fun y hy => ?_, List.nodup_cons.mpr ⟨fun q => a x q (by simp), b⟩⟩
      rcases List.mem_cons.mp hy with rfl | hy
      · exact hx'
      · exact fun q => a y hy (List.mem_append_left _ q)
theorem met_nd : ∀ (xs l : List Str), (∀ x ∈ xs, x ∉ l) → xs.Nodup → (xs.foldl SetS.stp l).length = l.length + xs.length
  | [], l, _, _ => by simp
  | x :: xs, l, a, b => by
    obtain ⟨b1, b2⟩ := List.nodup_cons.mp b
    have hx : l.any (· == x) = false := by
      rw [Bool.eq_false_iff]
      intro q
      obtain ⟨y, hy, q⟩ := List.any_eq_true.mp q
      have q : y = x := by simpa using q
      exact a x (.head _) (q ▸ hy)
    rw [List.foldl_cons]
    have e : SetS.stp l x = l ++ [x] := by
      unfold SetS.stp
      rw [if_neg (by rw [hx]; exact Bool.false_ne_true)]
    rw [e, met_nd xs (l ++ [x]) (fun y hy q => ?_) b2]
    · simp only [List.length_cons, List.length_append, List.length_nil]
      omega
    · rcases List.mem_append.mp q with q | q
      · exact a y (.tail _ hy) q
      · have : y = x := by simpa using q
        exact b1 (this ▸ hy)
theorem met_iff {ks : List Str} : (SetS.met ks).length = ks.length ↔ ks.Nodup := by
  unfold SetS.met
  constructor
  · intro h
    exact (met_all ks [] (by simpa using h)).2
  · intro h
    simpa using met_nd ks [] (fun _ _ => by simp) h
/-! ### sorted texts -/
abbrev sLe (a b : Str) : Bool := decide (a.cps.toList ≤ b.cps.toList)
theorem srt_str (ks : List Str) : srt (ks.map Vl.str) (ks.map PyData.str) = (ks.mergeSort sLe).map Vl.str := by
  unfold srt
  have e : (ks.map Vl.str).zip (ks.map PyData.str) = ks.map fun k => (Vl.str k, PyData.str k) := by
    rw [List.zip_map']
  rw [e, ← PySem.W.sort_maps (fun k => (Vl.str k, PyData.str k)) (r := sLe) (l := ks) (fun a _ b _ => ?_)]
  · rw [List.map_map]
    rfl
  · have := congrFun (congrFun (PySem.W.dataLe_str (fun k : Str => k)) a) b
    exact this.symm
theorem sLe_sorted (ks : List Str) : (ks.mergeSort sLe).Pairwise fun a b => sLe a b = true := by
  refine List.pairwise_mergeSort (fun a b c h1 h2 => ?_) (fun a b => ?_) ks
  · simp only [sLe, decide_eq_true_eq] at *
    exact List.le_trans h1 h2
  · simp only [sLe, Bool.or_eq_true, decide_eq_true_eq]
    exact List.le_total _ _
theorem right_iff {ks : List Str} : (ks = ks.mergeSort sLe ∧ (SetS.met ks).length = ks.length) ↔ ks.Pairwise SLt := by
  rw [met_iff]
  constructor
  · rintro ⟨h1, h2⟩
    have p := sLe_sorted ks
    rw [← h1] at p
    refine (List.Pairwise.and p h2).imp fun {a b} h => ?_
    have hle : a.cps.toList ≤ b.cps.toList := by simpa [sLe] using h.1
    have hne : a.cps.toList ≠ b.cps.toList := fun q => h.2 (PySem.W.str_of_cps q)
    rcases Decidable.em (a.cps.toList < b.cps.toList) with q | q
    · exact q
    · exact absurd (List.le_antisymm hle (List.not_lt.mp q)) hne
  · intro h
    refine ⟨(List.mergeSort_of_pairwise (h.imp fun {a b} q => ?_)).symm, h.imp fun {a b} q e => ?_⟩
    · simp only [sLe, decide_eq_true_eq]
      exact List.le_of_lt q
    · rw [e] at q
      exact List.lt_irrefl _ q
end K01

set_option Elab.async false
set_option linter.all false
set_option maxRecDepth 100000
set_option maxHeartbeats 4000000
namespace K01
open PySem PySem.Spec PyProof.Rows L2 NdefX GenE Sh
def strV : Vl → Str
  | .str x => x
  | _ => ⟨#[]⟩
def kindV : Vl → Vl
  | .tup _ (a :: _) => a
  | _ => .non
def kindsOf (rows : List Vl) : List Str := rows.map fun r => strV (kindV r)
def stockB : Vl → Bool
  | .tup _ rows => decide ((1 : Int) ≤ rows.length) && (decide ((rows.length : Int) ≤ 8) && (rows.all entryB && riseB (kindsOf rows)))
  | _ => false
theorem entry_of {r : Vl} (h : entryB r = true) : ∃ d k d' ps, r = .tup d [.str k, .tup d' ps] ∧ nmS k = true ∧ ps.all specB = true ∧ (1 : Int) ≤ ps.length ∧ (ps.length : Int) ≤ 4 := by
  unfold entryB at h
  split at h
  · rename_i d a b
    simp only [Bool.and_eq_true] at h
    obtain ⟨h1, h2, h3⟩ := h
    cases a with
    | str k =>
      cases b with
      | tup d' ps =>
        simp only [fewB, Bool.and_eq_true, decide_eq_true_eq] at h3
        exact ⟨d, k, d', ps, rfl, h1, h2, h3.1, h3.2⟩
      | _ => simp [specsB] at h2
    | _ => simp [nmB] at h1
  · exact absurd h Bool.false_ne_true
theorem kinds_eq {rows : List Vl} (h : rows.all entryB = true) : rows.map kindV = (kindsOf rows).map .str := by
  unfold kindsOf
  rw [List.map_map]
  refine List.map_congr_left fun r hr => ?_
  obtain ⟨d, k, d', ps, rfl, _⟩ := entry_of (List.all_eq_true.mp h r hr)
  rfl
theorem ix_kind {r : Vl} {M : Mem} (h : entryB r = true) : vIx r (.int 0) M = some (kindV r, M) := by
  obtain ⟨d, k, d', ps, rfl, _⟩ := entry_of h
  exact H.eq (by rw [ix_tup atI0]; exact ⟨rfl, rfl⟩)
theorem is_stock_eq {k n : Nat} {v : Vl} {M : Mem} (h : OkV k n M v) (hn : n ≤ 20) : ∃ N, m_is_stock [v] M = some (.bl (stockB v), M ++ N) := by
  suffices hh : H (m_is_stock [v] M) fun a b => a = .bl (stockB v) ∧ ∃ N, b = M ++ N by
    obtain ⟨a, b, e, rfl, N, rfl⟩ := hh
    exact ⟨N, e⟩
  unfold m_is_stock
  simp only [w_var, w_c, w_2, w_3, w_aNil, w_aCons, w_A, w_and, w_or, w_if, w_neg, w_isi, w_sl, w_oNone, w_oSome, w_app, w_revT, w_lenSet, w_tV, w_tAn, w_tO, w_tN, w_tYs, w_sNil, w_sCons, w_then_nx, w_then_rt, w_ret, w_ex, w_sIf, w_asg, w_gN, w_gsNil, w_gsCons, w_gT, w_run, w_out_rt, w_out_nx, w_mkT, w_mkL, w_v1, h_some, List.map_cons, List.map_nil, List.length_cons, List.length_nil, List.cons_append, List.nil_append, List.replicate, List.set_cons_zero, List.set_cons_succ, List.getElem?_cons_zero, List.getElem?_cons_succ, Nat.reduceAdd, Nat.reduceSub, Nat.reduceLeDiff, true_and, and_true, Vl.int.injEq, Vl.bl.injEq, exists_eq_left', w_allG, w_iSeq, w_lc, wipeE, gen0, slotE]
  rw [isi_tup h]
  cases v with
  | tup d rows =>
    simp only [isTupV, Bool.not_true, Bool.false_eq_true, if_false, w_lenT, w_leI, w_var, w_c, w_2, w_3, w_aNil, w_aCons, w_A, w_and, w_or, w_if, w_neg, w_isi, w_sl, w_oNone, w_oSome, w_app, w_revT, w_lenSet, w_tV, w_tAn, w_tO, w_tN, w_tYs, w_sNil, w_sCons, w_then_nx, w_then_rt, w_ret, w_ex, w_sIf, w_asg, w_gN, w_gsNil, w_gsCons, w_gT, w_run, w_out_rt, w_out_nx, w_mkT, w_mkL, w_v1, h_some, List.map_cons, List.map_nil, List.length_cons, List.length_nil, List.cons_append, List.nil_append, List.replicate, List.set_cons_zero, List.set_cons_succ, List.getElem?_cons_zero, List.getElem?_cons_succ, Nat.reduceAdd, Nat.reduceSub, Nat.reduceLeDiff, true_and, and_true, Vl.int.injEq, Vl.bl.injEq, exists_eq_left', stockB]
    cases h1 : decide ((1 : Int) ≤ rows.length) with
    | false => simp [w_var, w_c, w_2, w_3, w_aNil, w_aCons, w_A, w_and, w_or, w_if, w_neg, w_isi, w_sl, w_oNone, w_oSome, w_app, w_revT, w_lenSet, w_tV, w_tAn, w_tO, w_tN, w_tYs, w_sNil, w_sCons, w_then_nx, w_then_rt, w_ret, w_ex, w_sIf, w_asg, w_gN, w_gsNil, w_gsCons, w_gT, w_run, w_out_rt, w_out_nx, w_mkT, w_mkL, w_v1, h_some, List.map_cons, List.map_nil, List.length_cons, List.length_nil, List.cons_append, List.nil_append, List.replicate, List.set_cons_zero, List.set_cons_succ, List.getElem?_cons_zero, List.getElem?_cons_succ, Nat.reduceAdd, Nat.reduceSub, Nat.reduceLeDiff, true_and, and_true, Vl.int.injEq, Vl.bl.injEq, exists_eq_left']
    | true =>
      cases h8 : decide ((rows.length : Int) ≤ 8) with
      | false => simp [w_var, w_c, w_2, w_3, w_aNil, w_aCons, w_A, w_and, w_or, w_if, w_neg, w_isi, w_sl, w_oNone, w_oSome, w_app, w_revT, w_lenSet, w_tV, w_tAn, w_tO, w_tN, w_tYs, w_sNil, w_sCons, w_then_nx, w_then_rt, w_ret, w_ex, w_sIf, w_asg, w_gN, w_gsNil, w_gsCons, w_gT, w_run, w_out_rt, w_out_nx, w_mkT, w_mkL, w_v1, h_some, List.map_cons, List.map_nil, List.length_cons, List.length_nil, List.cons_append, List.nil_append, List.replicate, List.set_cons_zero, List.set_cons_succ, List.getElem?_cons_zero, List.getElem?_cons_succ, Nat.reduceAdd, Nat.reduceSub, Nat.reduceLeDiff, true_and, and_true, Vl.int.injEq, Vl.bl.injEq, exists_eq_left']
      | true =>
        have h8' : rows.length ≤ 8 := by have := of_decide_eq_true h8; omega
        simp only [if_true, w_var, w_c, w_2, w_3, w_aNil, w_aCons, w_A, w_and, w_or, w_if, w_neg, w_isi, w_sl, w_oNone, w_oSome, w_app, w_revT, w_lenSet, w_tV, w_tAn, w_tO, w_tN, w_tYs, w_sNil, w_sCons, w_then_nx, w_then_rt, w_ret, w_ex, w_sIf, w_asg, w_gN, w_gsNil, w_gsCons, w_gT, w_run, w_out_rt, w_out_nx, w_mkT, w_mkL, w_v1, h_some, List.map_cons, List.map_nil, List.length_cons, List.length_nil, List.cons_append, List.nil_append, List.replicate, List.set_cons_zero, List.set_cons_succ, List.getElem?_cons_zero, List.getElem?_cons_succ, Nat.reduceAdd, Nat.reduceSub, Nat.reduceLeDiff, true_and, and_true, Vl.int.injEq, Vl.bl.injEq, exists_eq_left', Bool.not_true, Bool.false_eq_true, if_false, Bool.true_and]
        cases n with
        | zero => exact h.elim
        | succ n =>
          refine all_run (xs := rows) (p := entryB) rfl (fun s hs => ?_) (Nat.le_refl _) ?_
          · apply H.eq
            simp only [w_var, w_c, w_2, w_3, w_aNil, w_aCons, w_A, w_and, w_or, w_if, w_neg, w_isi, w_sl, w_oNone, w_oSome, w_app, w_revT, w_lenSet, w_tV, w_tAn, w_tO, w_tN, w_tYs, w_sNil, w_sCons, w_then_nx, w_then_rt, w_ret, w_ex, w_sIf, w_asg, w_gN, w_gsNil, w_gsCons, w_gT, w_run, w_out_rt, w_out_nx, w_mkT, w_mkL, w_v1, h_some, List.map_cons, List.map_nil, List.length_cons, List.length_nil, List.cons_append, List.nil_append, List.replicate, List.set_cons_zero, List.set_cons_succ, List.getElem?_cons_zero, List.getElem?_cons_succ, Nat.reduceAdd, Nat.reduceSub, Nat.reduceLeDiff, true_and, and_true, Vl.int.injEq, Vl.bl.injEq, exists_eq_left']
            exact .of (is_entry_eq (h s hs) (by omega)) ⟨rfl, rfl⟩
          cases ha : rows.all entryB with
          | false => simp [w_var, w_c, w_2, w_3, w_aNil, w_aCons, w_A, w_and, w_or, w_if, w_neg, w_isi, w_sl, w_oNone, w_oSome, w_app, w_revT, w_lenSet, w_tV, w_tAn, w_tO, w_tN, w_tYs, w_sNil, w_sCons, w_then_nx, w_then_rt, w_ret, w_ex, w_sIf, w_asg, w_gN, w_gsNil, w_gsCons, w_gT, w_run, w_out_rt, w_out_nx, w_mkT, w_mkL, w_v1, h_some, List.map_cons, List.map_nil, List.length_cons, List.length_nil, List.cons_append, List.nil_append, List.replicate, List.set_cons_zero, List.set_cons_succ, List.getElem?_cons_zero, List.getElem?_cons_succ, Nat.reduceAdd, Nat.reduceSub, Nat.reduceLeDiff, true_and, and_true, Vl.int.injEq, Vl.bl.injEq, exists_eq_left']
          | true =>
            simp only [if_true, w_var, w_c, w_2, w_3, w_aNil, w_aCons, w_A, w_and, w_or, w_if, w_neg, w_isi, w_sl, w_oNone, w_oSome, w_app, w_revT, w_lenSet, w_tV, w_tAn, w_tO, w_tN, w_tYs, w_sNil, w_sCons, w_then_nx, w_then_rt, w_ret, w_ex, w_sIf, w_asg, w_gN, w_gsNil, w_gsCons, w_gT, w_run, w_out_rt, w_out_nx, w_mkT, w_mkL, w_v1, h_some, List.map_cons, List.map_nil, List.length_cons, List.length_nil, List.cons_append, List.nil_append, List.replicate, List.set_cons_zero, List.set_cons_succ, List.getElem?_cons_zero, List.getElem?_cons_succ, Nat.reduceAdd, Nat.reduceSub, Nat.reduceLeDiff, true_and, and_true, Vl.int.injEq, Vl.bl.injEq, exists_eq_left', Bool.not_true, Bool.false_eq_true, if_false, Bool.true_and]
            refine lc_map (h := kindV) rows (Nat.le_refl _) (Nat.le_trans h8' (by decide)) (fun _ => rfl) (fun x hx acc => ?_) ?_
            · apply H.eq
              simp only [w_var, w_c, w_2, w_3, w_aNil, w_aCons, w_A, w_and, w_or, w_if, w_neg, w_isi, w_sl, w_oNone, w_oSome, w_app, w_revT, w_lenSet, w_tV, w_tAn, w_tO, w_tN, w_tYs, w_sNil, w_sCons, w_then_nx, w_then_rt, w_ret, w_ex, w_sIf, w_asg, w_gN, w_gsNil, w_gsCons, w_gT, w_run, w_out_rt, w_out_nx, w_mkT, w_mkL, w_v1, h_some, List.map_cons, List.map_nil, List.length_cons, List.length_nil, List.cons_append, List.nil_append, List.replicate, List.set_cons_zero, List.set_cons_succ, List.getElem?_cons_zero, List.getElem?_cons_succ, Nat.reduceAdd, Nat.reduceSub, Nat.reduceLeDiff, true_and, and_true, Vl.int.injEq, Vl.bl.injEq, exists_eq_left']
              exact .of (ix_kind (List.all_eq_true.mp ha x hx)) ⟨rfl, rfl⟩
            · rw [kinds_eq ha]
              refine .of (rises_eq (app_at M [] _) (by simp only [kindsOf, List.length_map]; omega)) ⟨rfl, _, rfl⟩
  | _ => simp [isTupV, stockB, w_var, w_c, w_2, w_3, w_aNil, w_aCons, w_A, w_and, w_or, w_if, w_neg, w_isi, w_sl, w_oNone, w_oSome, w_app, w_revT, w_lenSet, w_tV, w_tAn, w_tO, w_tN, w_tYs, w_sNil, w_sCons, w_then_nx, w_then_rt, w_ret, w_ex, w_sIf, w_asg, w_gN, w_gsNil, w_gsCons, w_gT, w_run, w_out_rt, w_out_nx, w_mkT, w_mkL, w_v1, h_some, List.map_cons, List.map_nil, List.length_cons, List.length_nil, List.cons_append, List.nil_append, List.replicate, List.set_cons_zero, List.set_cons_succ, List.getElem?_cons_zero, List.getElem?_cons_succ, Nat.reduceAdd, Nat.reduceSub, Nat.reduceLeDiff, true_and, and_true, Vl.int.injEq, Vl.bl.injEq, exists_eq_left']
theorem bools_map (p : Vl → Bool) : ∀ xs : List Vl, bools (xs.map fun x => .bl (p x)) = some (xs.map p)
  | [] => rfl
  | x :: xs => by simp only [List.map_cons, bools, bools_map p xs, Option.map_some]
theorem mapO_str {M : Mem} {n : Nat} : ∀ {ks : List Str}, (∀ x ∈ ks, PyData.strOk x = true) → mapO (toD (n + 1) M) (ks.map .str) = some (ks.map .str)
  | [], _ => rfl
  | x :: xs, h => by
    simp only [List.map_cons, mapO, toD, h x (.head _), if_true, mapO_str (ks := xs) fun y hy => h y (.tail _ hy)]
theorem eqvAll_str : ∀ {ks ls : List Str}, PyData.eqvAll (ks.map .str) (ls.map .str) = decide (ks = ls)
  | [], [] => rfl
  | [], _ :: _ => by simp [PyData.eqvAll]
  | _ :: _, [] => by simp [PyData.eqvAll]
  | x :: xs, y :: ys => by
    simp only [List.map_cons, PyData.eqvAll, PyData.eqv, eqvAll_str (ks := xs) (ls := ys), List.cons.injEq]
    rw [Bool.eq_iff_iff]
    simp
theorem txts_str : ∀ ks : List Str, txts (ks.map .str) = some ks
  | [] => rfl
  | x :: xs => by simp only [List.map_cons, txts, txts_str xs, Option.map_some]
theorem alike_strs (ks : List Str) : alikeB (ks.map .str) = true := by
  unfold alikeB
  rw [List.all_eq_true]
  intro d hd
  rw [List.all_eq_true]
  intro e he
  obtain ⟨a, _, rfl⟩ := List.mem_map.mp hd
  obtain ⟨b, _, rfl⟩ := List.mem_map.mp he
  rfl
theorem flat_strs (ks : List Str) : ((ks.map PyData.str).all isTupB || (ks.map PyData.str).all isFlatB) = true := by
  rw [Bool.or_eq_true]
  right
  simp only [List.all_map, List.all_eq_true]
  intro a _
  rfl
theorem law_right_eq {k n : Nat} {v : Vl} {M : Mem} (h : OkV k n M v) (hn : n ≤ 20) (hk : Held k M) : ∃ N, m_law_right [v] M = some (.bl (stockB v), M ++ N) := by
  suffices hh : H (m_law_right [v] M) fun a b => a = .bl (stockB v) ∧ ∃ N, b = M ++ N by
    obtain ⟨a, b, e, rfl, N, rfl⟩ := hh
    exact ⟨N, e⟩
  unfold m_law_right
  simp only [w_var, w_c, w_2, w_3, w_aNil, w_aCons, w_A, w_and, w_or, w_if, w_neg, w_isi, w_sl, w_oNone, w_oSome, w_app, w_revT, w_lenSet, w_tV, w_tAn, w_tO, w_tN, w_tYs, w_sNil, w_sCons, w_then_nx, w_then_rt, w_ret, w_ex, w_sIf, w_asg, w_gN, w_gsNil, w_gsCons, w_gT, w_run, w_out_rt, w_out_nx, w_mkT, w_mkL, w_v1, h_some, List.map_cons, List.map_nil, List.length_cons, List.length_nil, List.cons_append, List.nil_append, List.replicate, List.set_cons_zero, List.set_cons_succ, List.getElem?_cons_zero, List.getElem?_cons_succ, Nat.reduceAdd, Nat.reduceSub, Nat.reduceLeDiff, true_and, and_true, Vl.int.injEq, Vl.bl.injEq, exists_eq_left', w_iSeq, w_lc, w_for, wipeE]
  rw [isi_tup h]
  cases v with
  | tup d rows =>
    simp only [isTupV, Bool.not_true, Bool.false_eq_true, if_false, w_lenT, w_gtI, vEq, toD, PyData.eqv, w_var, w_c, w_2, w_3, w_aNil, w_aCons, w_A, w_and, w_or, w_if, w_neg, w_isi, w_sl, w_oNone, w_oSome, w_app, w_revT, w_lenSet, w_tV, w_tAn, w_tO, w_tN, w_tYs, w_sNil, w_sCons, w_then_nx, w_then_rt, w_ret, w_ex, w_sIf, w_asg, w_gN, w_gsNil, w_gsCons, w_gT, w_run, w_out_rt, w_out_nx, w_mkT, w_mkL, w_v1, h_some, List.map_cons, List.map_nil, List.length_cons, List.length_nil, List.cons_append, List.nil_append, List.replicate, List.set_cons_zero, List.set_cons_succ, List.getElem?_cons_zero, List.getElem?_cons_succ, Nat.reduceAdd, Nat.reduceSub, Nat.reduceLeDiff, true_and, and_true, Vl.int.injEq, Vl.bl.injEq, exists_eq_left', stockB]
    by_cases h0 : (rows.length : Int) = 0
    · have h1 : ¬ (1 : Int) ≤ rows.length := by omega
      simp [h0, w_var, w_c, w_2, w_3, w_aNil, w_aCons, w_A, w_and, w_or, w_if, w_neg, w_isi, w_sl, w_oNone, w_oSome, w_app, w_revT, w_lenSet, w_tV, w_tAn, w_tO, w_tN, w_tYs, w_sNil, w_sCons, w_then_nx, w_then_rt, w_ret, w_ex, w_sIf, w_asg, w_gN, w_gsNil, w_gsCons, w_gT, w_run, w_out_rt, w_out_nx, w_mkT, w_mkL, w_v1, h_some, List.map_cons, List.map_nil, List.length_cons, List.length_nil, List.cons_append, List.nil_append, List.replicate, List.set_cons_zero, List.set_cons_succ, List.getElem?_cons_zero, List.getElem?_cons_succ, Nat.reduceAdd, Nat.reduceSub, Nat.reduceLeDiff, true_and, and_true, Vl.int.injEq, Vl.bl.injEq, exists_eq_left']
    have h1 : (1 : Int) ≤ rows.length := by omega
    have h0' : ((rows.length : Int) == 0) = false := by simpa using h0
    simp only [h0', h1, decide_true, Bool.false_eq_true, if_false, Bool.true_and]
    by_cases h8 : (rows.length : Int) ≤ 8
    case neg =>
      have h8' : (8 : Int) < rows.length := by omega
      simp [h8, h8', w_var, w_c, w_2, w_3, w_aNil, w_aCons, w_A, w_and, w_or, w_if, w_neg, w_isi, w_sl, w_oNone, w_oSome, w_app, w_revT, w_lenSet, w_tV, w_tAn, w_tO, w_tN, w_tYs, w_sNil, w_sCons, w_then_nx, w_then_rt, w_ret, w_ex, w_sIf, w_asg, w_gN, w_gsNil, w_gsCons, w_gT, w_run, w_out_rt, w_out_nx, w_mkT, w_mkL, w_v1, h_some, List.map_cons, List.map_nil, List.length_cons, List.length_nil, List.cons_append, List.nil_append, List.replicate, List.set_cons_zero, List.set_cons_succ, List.getElem?_cons_zero, List.getElem?_cons_succ, Nat.reduceAdd, Nat.reduceSub, Nat.reduceLeDiff, true_and, and_true, Vl.int.injEq, Vl.bl.injEq, exists_eq_left']
    have h8' : ¬ (8 : Int) < rows.length := by omega
    simp only [h8, h8', decide_true, decide_false, Bool.false_eq_true, if_false, Bool.true_and, w_var, w_c, w_2, w_3, w_aNil, w_aCons, w_A, w_and, w_or, w_if, w_neg, w_isi, w_sl, w_oNone, w_oSome, w_app, w_revT, w_lenSet, w_tV, w_tAn, w_tO, w_tN, w_tYs, w_sNil, w_sCons, w_then_nx, w_then_rt, w_ret, w_ex, w_sIf, w_asg, w_gN, w_gsNil, w_gsCons, w_gT, w_run, w_out_rt, w_out_nx, w_mkT, w_mkL, w_v1, h_some, List.map_cons, List.map_nil, List.length_cons, List.length_nil, List.cons_append, List.nil_append, List.replicate, List.set_cons_zero, List.set_cons_succ, List.getElem?_cons_zero, List.getElem?_cons_succ, Nat.reduceAdd, Nat.reduceSub, Nat.reduceLeDiff, true_and, and_true, Vl.int.injEq, Vl.bl.injEq, exists_eq_left']
    cases n with
    | zero => exact h.elim
    | succ n =>
    refine for_run rows (fun i ρ M' => (∃ N, M' = M ++ N) ∧ (∃ o, ρ = [some (.tup d rows), o, none, none]) ∧ (rows.take i).all entryB = true) ⟨⟨[], by simp⟩, ⟨none, rfl⟩, by simp⟩ (Nat.le_refl _) ?_ ?_
    · rintro i r ρ M' er ⟨⟨N, rfl⟩, ⟨o, rfl⟩, hall⟩
      have hr : r ∈ rows := List.mem_of_getElem? er
      have hok : OkV k n (M ++ N) r := OkV.grow ((Gr.refl hk).app N) (h r hr)
      refine ⟨rfl, ?_⟩
      have bad : entryB r = false → rows.all entryB = false := fun q => by
        rw [Bool.eq_false_iff]
        intro z
        rw [List.all_eq_true.mp z r hr] at q
        cases q
      simp only [w_var, w_c, w_2, w_3, w_aNil, w_aCons, w_A, w_and, w_or, w_if, w_neg, w_isi, w_sl, w_oNone, w_oSome, w_app, w_revT, w_lenSet, w_tV, w_tAn, w_tO, w_tN, w_tYs, w_sNil, w_sCons, w_then_nx, w_then_rt, w_ret, w_ex, w_sIf, w_asg, w_gN, w_gsNil, w_gsCons, w_gT, w_run, w_out_rt, w_out_nx, w_mkT, w_mkL, w_v1, h_some, List.map_cons, List.map_nil, List.length_cons, List.length_nil, List.cons_append, List.nil_append, List.replicate, List.set_cons_zero, List.set_cons_succ, List.getElem?_cons_zero, List.getElem?_cons_succ, Nat.reduceAdd, Nat.reduceSub, Nat.reduceLeDiff, true_and, and_true, Vl.int.injEq, Vl.bl.injEq, exists_eq_left']
      rw [isi_tup hok]
      cases r with
      | tup dr xs =>
        simp only [isTupV, Bool.not_true, Bool.false_eq_true, if_false, w_lenT, vNe, toD, PyData.eqv, w_var, w_c, w_2, w_3, w_aNil, w_aCons, w_A, w_and, w_or, w_if, w_neg, w_isi, w_sl, w_oNone, w_oSome, w_app, w_revT, w_lenSet, w_tV, w_tAn, w_tO, w_tN, w_tYs, w_sNil, w_sCons, w_then_nx, w_then_rt, w_ret, w_ex, w_sIf, w_asg, w_gN, w_gsNil, w_gsCons, w_gT, w_run, w_out_rt, w_out_nx, w_mkT, w_mkL, w_v1, h_some, List.map_cons, List.map_nil, List.length_cons, List.length_nil, List.cons_append, List.nil_append, List.replicate, List.set_cons_zero, List.set_cons_succ, List.getElem?_cons_zero, List.getElem?_cons_succ, Nat.reduceAdd, Nat.reduceSub, Nat.reduceLeDiff, true_and, and_true, Vl.int.injEq, Vl.bl.injEq, exists_eq_left']
        cases h2 : ((xs.length : Int) == 2) with
        | false => simp [bad (not_two' h2), w_var, w_c, w_2, w_3, w_aNil, w_aCons, w_A, w_and, w_or, w_if, w_neg, w_isi, w_sl, w_oNone, w_oSome, w_app, w_revT, w_lenSet, w_tV, w_tAn, w_tO, w_tN, w_tYs, w_sNil, w_sCons, w_then_nx, w_then_rt, w_ret, w_ex, w_sIf, w_asg, w_gN, w_gsNil, w_gsCons, w_gT, w_run, w_out_rt, w_out_nx, w_mkT, w_mkL, w_v1, h_some, List.map_cons, List.map_nil, List.length_cons, List.length_nil, List.cons_append, List.nil_append, List.replicate, List.set_cons_zero, List.set_cons_succ, List.getElem?_cons_zero, List.getElem?_cons_succ, Nat.reduceAdd, Nat.reduceSub, Nat.reduceLeDiff, true_and, and_true, Vl.int.injEq, Vl.bl.injEq, exists_eq_left']
        | true =>
          obtain ⟨a, b, rfl⟩ := two_of h2
          cases n with
          | zero => exact hok.elim
          | succ n =>
            have ha : OkV k n (M ++ N) a := hok a (by simp)
            simp only [Bool.not_true, Bool.false_eq_true, if_false, ix_tup atI0]
            obtain ⟨N1, e1⟩ := law_name_eq ha
            refine .of e1 ?_
            have hb : OkV k n (M ++ N ++ N1) b := OkV.grow ((Gr.refl hk.app).app N1) (hok b (by simp))
            simp only [w_var, w_c, w_2, w_3, w_aNil, w_aCons, w_A, w_and, w_or, w_if, w_neg, w_isi, w_sl, w_oNone, w_oSome, w_app, w_revT, w_lenSet, w_tV, w_tAn, w_tO, w_tN, w_tYs, w_sNil, w_sCons, w_then_nx, w_then_rt, w_ret, w_ex, w_sIf, w_asg, w_gN, w_gsNil, w_gsCons, w_gT, w_run, w_out_rt, w_out_nx, w_mkT, w_mkL, w_v1, h_some, List.map_cons, List.map_nil, List.length_cons, List.length_nil, List.cons_append, List.nil_append, List.replicate, List.set_cons_zero, List.set_cons_succ, List.getElem?_cons_zero, List.getElem?_cons_succ, Nat.reduceAdd, Nat.reduceSub, Nat.reduceLeDiff, true_and, and_true, Vl.int.injEq, Vl.bl.injEq, exists_eq_left', ix_tup atI1, isi_tup hb]
            cases hna : nmB a with
            | false =>
              have hq : entryB (.tup dr [a, b]) = false := by simp [entryB, hna]
              simp [bad hq, w_var, w_c, w_2, w_3, w_aNil, w_aCons, w_A, w_and, w_or, w_if, w_neg, w_isi, w_sl, w_oNone, w_oSome, w_app, w_revT, w_lenSet, w_tV, w_tAn, w_tO, w_tN, w_tYs, w_sNil, w_sCons, w_then_nx, w_then_rt, w_ret, w_ex, w_sIf, w_asg, w_gN, w_gsNil, w_gsCons, w_gT, w_run, w_out_rt, w_out_nx, w_mkT, w_mkL, w_v1, h_some, List.map_cons, List.map_nil, List.length_cons, List.length_nil, List.cons_append, List.nil_append, List.replicate, List.set_cons_zero, List.set_cons_succ, List.getElem?_cons_zero, List.getElem?_cons_succ, Nat.reduceAdd, Nat.reduceSub, Nat.reduceLeDiff, true_and, and_true, Vl.int.injEq, Vl.bl.injEq, exists_eq_left']
            | true =>
              simp only [Bool.not_true, Bool.false_eq_true, if_false]
              cases b with
              | tup d' ps =>
                simp only [isTupV, Bool.not_true, Bool.false_eq_true, if_false, w_lenT, w_leI, w_var, w_c, w_2, w_3, w_aNil, w_aCons, w_A, w_and, w_or, w_if, w_neg, w_isi, w_sl, w_oNone, w_oSome, w_app, w_revT, w_lenSet, w_tV, w_tAn, w_tO, w_tN, w_tYs, w_sNil, w_sCons, w_then_nx, w_then_rt, w_ret, w_ex, w_sIf, w_asg, w_gN, w_gsNil, w_gsCons, w_gT, w_run, w_out_rt, w_out_nx, w_mkT, w_mkL, w_v1, h_some, List.map_cons, List.map_nil, List.length_cons, List.length_nil, List.cons_append, List.nil_append, List.replicate, List.set_cons_zero, List.set_cons_succ, List.getElem?_cons_zero, List.getElem?_cons_succ, Nat.reduceAdd, Nat.reduceSub, Nat.reduceLeDiff, true_and, and_true, Vl.int.injEq, Vl.bl.injEq, exists_eq_left']
                cases hp1 : decide ((1 : Int) ≤ ps.length) with
                | false =>
                  have hq : entryB (.tup dr [a, .tup d' ps]) = false := by simp [entryB, fewB, hp1]
                  simp [bad hq, w_var, w_c, w_2, w_3, w_aNil, w_aCons, w_A, w_and, w_or, w_if, w_neg, w_isi, w_sl, w_oNone, w_oSome, w_app, w_revT, w_lenSet, w_tV, w_tAn, w_tO, w_tN, w_tYs, w_sNil, w_sCons, w_then_nx, w_then_rt, w_ret, w_ex, w_sIf, w_asg, w_gN, w_gsNil, w_gsCons, w_gT, w_run, w_out_rt, w_out_nx, w_mkT, w_mkL, w_v1, h_some, List.map_cons, List.map_nil, List.length_cons, List.length_nil, List.cons_append, List.nil_append, List.replicate, List.set_cons_zero, List.set_cons_succ, List.getElem?_cons_zero, List.getElem?_cons_succ, Nat.reduceAdd, Nat.reduceSub, Nat.reduceLeDiff, true_and, and_true, Vl.int.injEq, Vl.bl.injEq, exists_eq_left']
                | true =>
                  cases hp4 : decide ((ps.length : Int) ≤ 4) with
                  | false =>
                    have hq : entryB (.tup dr [a, .tup d' ps]) = false := by simp [entryB, fewB, hp4]
                    simp [bad hq, w_var, w_c, w_2, w_3, w_aNil, w_aCons, w_A, w_and, w_or, w_if, w_neg, w_isi, w_sl, w_oNone, w_oSome, w_app, w_revT, w_lenSet, w_tV, w_tAn, w_tO, w_tN, w_tYs, w_sNil, w_sCons, w_then_nx, w_then_rt, w_ret, w_ex, w_sIf, w_asg, w_gN, w_gsNil, w_gsCons, w_gT, w_run, w_out_rt, w_out_nx, w_mkT, w_mkL, w_v1, h_some, List.map_cons, List.map_nil, List.length_cons, List.length_nil, List.cons_append, List.nil_append, List.replicate, List.set_cons_zero, List.set_cons_succ, List.getElem?_cons_zero, List.getElem?_cons_succ, Nat.reduceAdd, Nat.reduceSub, Nat.reduceLeDiff, true_and, and_true, Vl.int.injEq, Vl.bl.injEq, exists_eq_left']
                  | true =>
                    have hl4 : ps.length ≤ 4 := by have := of_decide_eq_true hp4; omega
                    simp only [if_true, Bool.not_true, Bool.false_eq_true, if_false, w_var, w_c, w_2, w_3, w_aNil, w_aCons, w_A, w_and, w_or, w_if, w_neg, w_isi, w_sl, w_oNone, w_oSome, w_app, w_revT, w_lenSet, w_tV, w_tAn, w_tO, w_tN, w_tYs, w_sNil, w_sCons, w_then_nx, w_then_rt, w_ret, w_ex, w_sIf, w_asg, w_gN, w_gsNil, w_gsCons, w_gT, w_run, w_out_rt, w_out_nx, w_mkT, w_mkL, w_v1, h_some, List.map_cons, List.map_nil, List.length_cons, List.length_nil, List.cons_append, List.nil_append, List.replicate, List.set_cons_zero, List.set_cons_succ, List.getElem?_cons_zero, List.getElem?_cons_succ, Nat.reduceAdd, Nat.reduceSub, Nat.reduceLeDiff, true_and, and_true, Vl.int.injEq, Vl.bl.injEq, exists_eq_left', w_lc, w_iSeq, wipeE, ix_tup atI1]
                    cases n with
                    | zero => exact hb.elim
                    | succ n =>
                    refine lc_run ps (fun j acc M2 => acc = (ps.take j).map (fun x => .bl (specB x)) ∧ ∃ N2, M2 = (M ++ N ++ N1) ++ Ob.lst acc :: N2) ⟨by simp, [], rfl⟩ (Nat.le_refl _) ?_ ?_
                    · rintro j x acc M2 ex ⟨hacc, N2, rfl⟩
                      refine ⟨rfl, ?_⟩
                      simp only [w_var, w_c, w_2, w_3, w_aNil, w_aCons, w_A, w_and, w_or, w_if, w_neg, w_isi, w_sl, w_oNone, w_oSome, w_app, w_revT, w_lenSet, w_tV, w_tAn, w_tO, w_tN, w_tYs, w_sNil, w_sCons, w_then_nx, w_then_rt, w_ret, w_ex, w_sIf, w_asg, w_gN, w_gsNil, w_gsCons, w_gT, w_run, w_out_rt, w_out_nx, w_mkT, w_mkL, w_v1, h_some, List.map_cons, List.map_nil, List.length_cons, List.length_nil, List.cons_append, List.nil_append, List.replicate, List.set_cons_zero, List.set_cons_succ, List.getElem?_cons_zero, List.getElem?_cons_succ, Nat.reduceAdd, Nat.reduceSub, Nat.reduceLeDiff, true_and, and_true, Vl.int.injEq, Vl.bl.injEq, exists_eq_left', if_true]
                      have hx : OkV k n ((M ++ N ++ N1) ++ Ob.lst acc :: N2) x := OkV.grow ((Gr.refl (hk.app.app)).app _) (hb x (List.mem_of_getElem? ex))
                      obtain ⟨N3, e3⟩ := law_spec_eq hx (by omega) hk.app.app.app
                      refine .of e3 ?_
                      rw [List.append_assoc, List.cons_append]
                      refine ⟨app_at _ _ _, ?_, ?_, N2 ++ N3, ?_⟩
                      · have := (List.getElem?_eq_some_iff.mp ex).1
                        rw [hacc]
                        simp only [List.length_map, List.length_take]
                        exact Nat.lt_of_le_of_lt (Nat.min_le_right _ _) (Nat.lt_of_le_of_lt hl4 (by decide))
                      · rw [hacc, List.take_succ, ex]
                        simp
                      · rw [app_set]
                    · rintro acc M2 ⟨hacc, N2, rfl⟩
                      refine ⟨rfl, ?_⟩
                      rw [List.take_length] at hacc
                      have ev : vAll (.ref (M ++ N ++ N1).length) ((M ++ N ++ N1) ++ Ob.lst acc :: N2) = some (.bl (ps.all specB), (M ++ N ++ N1) ++ Ob.lst acc :: N2) := by
                        simp only [vAll, seqAt_of (app_at (M ++ N ++ N1) N2 (Ob.lst acc))]
                        rw [hacc, bools_map]
                        simp only [Option.map_some, List.all_map]
                        rfl
                      rw [ev]
                      simp only [w_var, w_c, w_2, w_3, w_aNil, w_aCons, w_A, w_and, w_or, w_if, w_neg, w_isi, w_sl, w_oNone, w_oSome, w_app, w_revT, w_lenSet, w_tV, w_tAn, w_tO, w_tN, w_tYs, w_sNil, w_sCons, w_then_nx, w_then_rt, w_ret, w_ex, w_sIf, w_asg, w_gN, w_gsNil, w_gsCons, w_gT, w_run, w_out_rt, w_out_nx, w_mkT, w_mkL, w_v1, h_some, List.map_cons, List.map_nil, List.length_cons, List.length_nil, List.cons_append, List.nil_append, List.replicate, List.set_cons_zero, List.set_cons_succ, List.getElem?_cons_zero, List.getElem?_cons_succ, Nat.reduceAdd, Nat.reduceSub, Nat.reduceLeDiff, true_and, and_true, Vl.int.injEq, Vl.bl.injEq, exists_eq_left']
                      cases hps : ps.all specB with
                      | false =>
                        have hq : entryB (.tup dr [a, .tup d' ps]) = false := by simp [entryB, specsB, hps]
                        simp [bad hq, w_var, w_c, w_2, w_3, w_aNil, w_aCons, w_A, w_and, w_or, w_if, w_neg, w_isi, w_sl, w_oNone, w_oSome, w_app, w_revT, w_lenSet, w_tV, w_tAn, w_tO, w_tN, w_tYs, w_sNil, w_sCons, w_then_nx, w_then_rt, w_ret, w_ex, w_sIf, w_asg, w_gN, w_gsNil, w_gsCons, w_gT, w_run, w_out_rt, w_out_nx, w_mkT, w_mkL, w_v1, h_some, List.map_cons, List.map_nil, List.length_cons, List.length_nil, List.cons_append, List.nil_append, List.replicate, List.set_cons_zero, List.set_cons_succ, List.getElem?_cons_zero, List.getElem?_cons_succ, Nat.reduceAdd, Nat.reduceSub, Nat.reduceLeDiff, true_and, and_true, Vl.int.injEq, Vl.bl.injEq, exists_eq_left']
                      | true =>
                        have hq : entryB (.tup dr [a, .tup d' ps]) = true := by simp only [entryB, specsB, fewB, hna, hps, hp1, hp4, Bool.and_self]
                        simp only [Bool.not_true, Bool.false_eq_true, if_false, w_var, w_c, w_2, w_3, w_aNil, w_aCons, w_A, w_and, w_or, w_if, w_neg, w_isi, w_sl, w_oNone, w_oSome, w_app, w_revT, w_lenSet, w_tV, w_tAn, w_tO, w_tN, w_tYs, w_sNil, w_sCons, w_then_nx, w_then_rt, w_ret, w_ex, w_sIf, w_asg, w_gN, w_gsNil, w_gsCons, w_gT, w_run, w_out_rt, w_out_nx, w_mkT, w_mkL, w_v1, h_some, List.map_cons, List.map_nil, List.length_cons, List.length_nil, List.cons_append, List.nil_append, List.replicate, List.set_cons_zero, List.set_cons_succ, List.getElem?_cons_zero, List.getElem?_cons_succ, Nat.reduceAdd, Nat.reduceSub, Nat.reduceLeDiff, true_and, and_true, Vl.int.injEq, Vl.bl.injEq, exists_eq_left']
                        refine .inl ⟨⟨N ++ (N1 ++ Ob.lst acc :: N2), by simp only [List.append_assoc]⟩, ⟨_, rfl⟩, ?_⟩
                        rw [List.take_succ, er]
                        simp [hall, hq]
              | _ =>
                have hq := bad (by simp only [entryB, specsB, Bool.false_and, Bool.and_false])
                simp [isTupV, hq, w_var, w_c, w_2, w_3, w_aNil, w_aCons, w_A, w_and, w_or, w_if, w_neg, w_isi, w_sl, w_oNone, w_oSome, w_app, w_revT, w_lenSet, w_tV, w_tAn, w_tO, w_tN, w_tYs, w_sNil, w_sCons, w_then_nx, w_then_rt, w_ret, w_ex, w_sIf, w_asg, w_gN, w_gsNil, w_gsCons, w_gT, w_run, w_out_rt, w_out_nx, w_mkT, w_mkL, w_v1, h_some, List.map_cons, List.map_nil, List.length_cons, List.length_nil, List.cons_append, List.nil_append, List.replicate, List.set_cons_zero, List.set_cons_succ, List.getElem?_cons_zero, List.getElem?_cons_succ, Nat.reduceAdd, Nat.reduceSub, Nat.reduceLeDiff, true_and, and_true, Vl.int.injEq, Vl.bl.injEq, exists_eq_left']
      | _ =>
        simp [isTupV, bad rfl, w_var, w_c, w_2, w_3, w_aNil, w_aCons, w_A, w_and, w_or, w_if, w_neg, w_isi, w_sl, w_oNone, w_oSome, w_app, w_revT, w_lenSet, w_tV, w_tAn, w_tO, w_tN, w_tYs, w_sNil, w_sCons, w_then_nx, w_then_rt, w_ret, w_ex, w_sIf, w_asg, w_gN, w_gsNil, w_gsCons, w_gT, w_run, w_out_rt, w_out_nx, w_mkT, w_mkL, w_v1, h_some, List.map_cons, List.map_nil, List.length_cons, List.length_nil, List.cons_append, List.nil_append, List.replicate, List.set_cons_zero, List.set_cons_succ, List.getElem?_cons_zero, List.getElem?_cons_succ, Nat.reduceAdd, Nat.reduceSub, Nat.reduceLeDiff, true_and, and_true, Vl.int.injEq, Vl.bl.injEq, exists_eq_left']
    · rintro ρ M' ⟨⟨N, rfl⟩, ⟨o, rfl⟩, hall⟩
      rw [List.take_length] at hall
      refine ⟨rfl, ?_⟩
      simp only [w_var, w_c, w_2, w_3, w_aNil, w_aCons, w_A, w_and, w_or, w_if, w_neg, w_isi, w_sl, w_oNone, w_oSome, w_app, w_revT, w_lenSet, w_tV, w_tAn, w_tO, w_tN, w_tYs, w_sNil, w_sCons, w_then_nx, w_then_rt, w_ret, w_ex, w_sIf, w_asg, w_gN, w_gsNil, w_gsCons, w_gT, w_run, w_out_rt, w_out_nx, w_mkT, w_mkL, w_v1, h_some, List.map_cons, List.map_nil, List.length_cons, List.length_nil, List.cons_append, List.nil_append, List.replicate, List.set_cons_zero, List.set_cons_succ, List.getElem?_cons_zero, List.getElem?_cons_succ, Nat.reduceAdd, Nat.reduceSub, Nat.reduceLeDiff, true_and, and_true, Vl.int.injEq, Vl.bl.injEq, exists_eq_left', w_lc, w_iSeq, wipeE]
      have hl8 : rows.length ≤ 8 := by omega
      refine lc_map (h := kindV) rows (Nat.le_refl _) (Nat.le_trans hl8 (by decide)) (fun _ => rfl) (fun x hx acc => ?_) ?_
      · apply H.eq
        simp only [w_var, w_c, w_2, w_3, w_aNil, w_aCons, w_A, w_and, w_or, w_if, w_neg, w_isi, w_sl, w_oNone, w_oSome, w_app, w_revT, w_lenSet, w_tV, w_tAn, w_tO, w_tN, w_tYs, w_sNil, w_sCons, w_then_nx, w_then_rt, w_ret, w_ex, w_sIf, w_asg, w_gN, w_gsNil, w_gsCons, w_gT, w_run, w_out_rt, w_out_nx, w_mkT, w_mkL, w_v1, h_some, List.map_cons, List.map_nil, List.length_cons, List.length_nil, List.cons_append, List.nil_append, List.replicate, List.set_cons_zero, List.set_cons_succ, List.getElem?_cons_zero, List.getElem?_cons_succ, Nat.reduceAdd, Nat.reduceSub, Nat.reduceLeDiff, true_and, and_true, Vl.int.injEq, Vl.bl.injEq, exists_eq_left']
        exact .of (ix_kind (List.all_eq_true.mp hall x hx)) ⟨rfl, rfl⟩
      · rw [kinds_eq hall]
        have hks : ∀ x ∈ kindsOf rows, PyData.strOk x = true := fun x hx => by
          obtain ⟨r, hr, rfl⟩ := List.mem_map.mp hx
          have ho := h r hr
          obtain ⟨dr, kk, d', ps, rfl, _⟩ := entry_of (List.all_eq_true.mp hall r hr)
          cases n with
          | zero => exact ho.elim
          | succ n =>
            have := ho (.str kk) (by simp)
            cases n with
            | zero => exact this.elim
            | succ n => exact this.1
        have hlk : (kindsOf rows).length ≤ 1000 := by simp only [kindsOf, List.length_map]; omega
        generalize kindsOf rows = ks at hks hlk ⊢
        have e0 := app_at (M ++ N) [] (Ob.lst (ks.map .str))
        have es : vSorted (.ref (M ++ N).length) (M ++ N ++ [Ob.lst (ks.map .str)]) = some (.ref (M ++ N ++ [Ob.lst (ks.map .str)]).length, M ++ N ++ [Ob.lst (ks.map .str)] ++ [Ob.lst ((ks.mergeSort sLe).map .str)]) := by
          simp only [vSorted, seqAt_of e0, mapO_str hks, alike_strs, flat_strs, and_self, if_true, srt_str]
        rw [es]
        simp only [w_var, w_c, w_2, w_3, w_aNil, w_aCons, w_A, w_and, w_or, w_if, w_neg, w_isi, w_sl, w_oNone, w_oSome, w_app, w_revT, w_lenSet, w_tV, w_tAn, w_tO, w_tN, w_tYs, w_sNil, w_sCons, w_then_nx, w_then_rt, w_ret, w_ex, w_sIf, w_asg, w_gN, w_gsNil, w_gsCons, w_gT, w_run, w_out_rt, w_out_nx, w_mkT, w_mkL, w_v1, h_some, List.map_cons, List.map_nil, List.length_cons, List.length_nil, List.cons_append, List.nil_append, List.replicate, List.set_cons_zero, List.set_cons_succ, List.getElem?_cons_zero, List.getElem?_cons_succ, Nat.reduceAdd, Nat.reduceSub, Nat.reduceLeDiff, true_and, and_true, Vl.int.injEq, Vl.bl.injEq, exists_eq_left']
        have e1 : (M ++ N ++ [Ob.lst (ks.map .str)] ++ [Ob.lst ((ks.mergeSort sLe).map .str)])[(M ++ N).length]? = some (Ob.lst (ks.map .str)) := by simp
        have e2 : (M ++ N ++ [Ob.lst (ks.map .str)] ++ [Ob.lst ((ks.mergeSort sLe).map .str)])[(M ++ N ++ [Ob.lst (ks.map .str)]).length]? = some (Ob.lst ((ks.mergeSort sLe).map .str)) := by simp
        have hks' : ∀ x ∈ ks.mergeSort sLe, PyData.strOk x = true := fun x hx => hks x ((List.mergeSort_perm ks sLe).mem_iff.mp hx)
        have eq1 : vEq (.ref (M ++ N).length) (.ref (M ++ N ++ [Ob.lst (ks.map .str)]).length) (M ++ N ++ [Ob.lst (ks.map .str)] ++ [Ob.lst ((ks.mergeSort sLe).map .str)]) = some (.bl (decide (ks = ks.mergeSort sLe)), M ++ N ++ [Ob.lst (ks.map .str)] ++ [Ob.lst ((ks.mergeSort sLe).map .str)]) := by
          simp only [vEq, toD, seqAt_of e1, seqAt_of e2, mapO_str hks, mapO_str hks', Option.map_some, PyData.eqv, eqvAll_str]
        refine .of eq1 ⟨_, rfl, ?_⟩
        rw [hall, Bool.true_and]
        have rb : riseB ks = true ↔ (ks = ks.mergeSort sLe ∧ (SetS.met ks).length = ks.length) := rise_iff.trans right_iff.symm
        by_cases hd : ks = ks.mergeSort sLe
        · rw [if_pos (decide_eq_true hd)]
          refine ⟨_, _, _, rfl, seqAt_of e1, txts_str ks, hlk, ?_⟩
          rw [w_lenR (seqAt_of e1), List.length_map]
          refine .of (a := .bl (((SetS.met ks).length : Int) == (ks.length : Int))) rfl ⟨?_, N ++ ([Ob.lst (ks.map .str)] ++ [Ob.lst ((ks.mergeSort sLe).map .str)]), by simp only [List.append_assoc]⟩
          congr 1
          rw [Bool.eq_iff_iff, rb]
          simp only [beq_iff_eq, Int.natCast_inj]
          exact ⟨fun q => ⟨hd, q⟩, fun q => q.2⟩
        · rw [if_neg (by simpa using hd)]
          refine ⟨?_, N ++ ([Ob.lst (ks.map .str)] ++ [Ob.lst ((ks.mergeSort sLe).map .str)]), by simp only [List.append_assoc]⟩
          symm
          rw [Bool.eq_false_iff]
          exact fun q => hd (rb.mp q).1
  | _ => simp [isTupV, stockB, w_var, w_c, w_2, w_3, w_aNil, w_aCons, w_A, w_and, w_or, w_if, w_neg, w_isi, w_sl, w_oNone, w_oSome, w_app, w_revT, w_lenSet, w_tV, w_tAn, w_tO, w_tN, w_tYs, w_sNil, w_sCons, w_then_nx, w_then_rt, w_ret, w_ex, w_sIf, w_asg, w_gN, w_gsNil, w_gsCons, w_gT, w_run, w_out_rt, w_out_nx, w_mkT, w_mkL, w_v1, h_some, List.map_cons, List.map_nil, List.length_cons, List.length_nil, List.cons_append, List.nil_append, List.replicate, List.set_cons_zero, List.set_cons_succ, List.getElem?_cons_zero, List.getElem?_cons_succ, Nat.reduceAdd, Nat.reduceSub, Nat.reduceLeDiff, true_and, and_true, Vl.int.injEq, Vl.bl.injEq, exists_eq_left']
end K01

set_option Elab.async false
set_option linter.all false
set_option maxRecDepth 100000
set_option maxHeartbeats 4000000
namespace K01
open PySem PySem.Spec PyProof.Rows L2 NdefX GenE Sh
abbrev oneS (c : Nat) : Str := ⟨#[c]⟩
theorem str_ext {x y : Str} (h : x.cps.toList = y.cps.toList) : x = y := PySem.W.str_of_cps h
theorem app_cps (a b : Str) : (a ++ b).cps.toList = a.cps.toList ++ b.cps.toList := by
  show (a.cps ++ b.cps).toList = _
  simp
theorem join_one : ∀ cs : List Nat, (Txt.join (Str.ofString "") (cs.map oneS)) = ⟨cs.toArray⟩ := by
  have h : ∀ cs : List Nat, (Str.join (Str.ofString "") (cs.map oneS)).cps.toList = cs := by
    intro cs
    induction cs with
    | nil => rfl
    | cons c cs ih =>
      cases cs with
      | nil => rfl
      | cons c' cs =>
        rw [List.map_cons, List.map_cons, Str.join]
        · rw [app_cps, app_cps]
          rw [List.map_cons] at ih
          rw [ih]
          rfl
        · simp
  intro cs
  apply str_ext
  show (Builtin.Str.glued (PySem.Str.ofString "") (cs.map oneS)).cps.toList = cs
  rw [StrLaws.glued_eq_join]
  exact h cs
theorem pick {j : Nat} {M : Mem} {c : Int} {xs : List Vl} {Q : Vl → Mem → Prop} (e : M[j]? = some (.lst xs)) (h0 : 0 ≤ c) (h1 : c < xs.length) (q : ∀ x ∈ xs, Q x M) : H (vIx (.ref j) (.int c) M) Q := by
  obtain ⟨x, hx, ex⟩ := atI_mem h0 h1
  rw [ix_ref e ex]
  exact q x hx
theorem lc_draw {k i n : Nat} {fe : Fe} {ρ : Sh.Env} {Q : Mem → Prop} {M : Mem} (S : List Nat) (m : Nat) (hk : Held k M) (hn : m ≤ n) (hm : m ≤ 1000)
    (he : ∀ x M', Gr k M M' → H (fe (ρ.set i (some x)) M') fun y M'' => (∃ c, c ∈ S ∧ y = .str (oneS c)) ∧ Gr k M' M'')
    (q : ∀ (cs : List Nat) (M' : Mem), cs.length = m → (∀ c ∈ cs, c ∈ S) → M'[M.length]? = some (.lst (cs.map fun c => .str (oneS c))) → Gr k M M' → Q M') :
    LC (fun _ => some (rng 0 m)) (gN i) tYs fe M.length ρ n 0 (M ++ [.lst []]) Q := by
  have hl : (rng 0 m).length = m := by simp [rng]
  have hne : M.length ≠ k := by have := hk.lt; omega
  refine lc_run (rng 0 m) (fun j acc M' => ∃ cs : List Nat, cs.length = j ∧ (∀ c ∈ cs, c ∈ S) ∧ acc = cs.map (fun c => .str (oneS c)) ∧ M'[M.length]? = some (.lst acc) ∧ Gr k M M') ⟨[], rfl, by simp, rfl, app_at M [] _, (Gr.refl hk).app _⟩ (by rw [hl]; exact hn) ?_ ?_
  · rintro j x acc M' ex ⟨cs, h1, h2, rfl, h4, g⟩
    refine ⟨rfl, ?_⟩
    simp only [w_var, w_c, w_2, w_3, w_aNil, w_aCons, w_A, w_and, w_or, w_if, w_neg, w_isi, w_sl, w_oNone, w_oSome, w_app, w_revT, w_lenSet, w_tV, w_tAn, w_tO, w_tN, w_tYs, w_sNil, w_sCons, w_then_nx, w_then_rt, w_ret, w_ex, w_sIf, w_asg, w_gN, w_gsNil, w_gsCons, w_gT, w_run, w_out_rt, w_out_nx, w_mkT, w_mkL, w_v1, h_some, List.map_cons, List.map_nil, List.length_cons, List.length_nil, List.cons_append, List.nil_append, List.replicate, List.set_cons_zero, List.set_cons_succ, List.getElem?_cons_zero, List.getElem?_cons_succ, Nat.reduceAdd, Nat.reduceSub, Nat.reduceLeDiff, true_and, and_true, Vl.int.injEq, Vl.bl.injEq, exists_eq_left', if_true]
    refine (he x M' g).mono ?_
    rintro y M'' ⟨⟨c, hc, rfl⟩, g2⟩
    have e := g2.at hne h4
    have hj := (List.getElem?_eq_some_iff.mp ex).1
    refine ⟨e, ?_, cs ++ [c], by simp [h1], ?_, by simp, ?_, ?_⟩
    · rw [List.length_map, h1]
      exact Nat.lt_of_lt_of_le hj (by rw [hl]; exact Nat.le_trans hm (by decide))
    · intro z hz
      rcases List.mem_append.mp hz with hz | hz
      · exact h2 z hz
      · have : z = c := by simpa using hz
        exact this ▸ hc
    · rw [List.getElem?_set_self (List.getElem?_eq_some_iff.mp e).1]
    · exact (g.trans g2).set (Nat.le_refl _) hne
  · rintro acc M' ⟨cs, h1, h2, rfl, h4, g⟩
    refine ⟨rfl, q cs M' (h1.trans hl) h2 h4 g⟩
theorem txts_map (cs : List Nat) : txts (cs.map fun c => .str (oneS c)) = some (cs.map oneS) := by
  have := txts_str (cs.map oneS)
  rwa [List.map_map] at this
theorem join_ok {j : Nat} {M : Mem} {cs : List Nat} {Q : Vl → Mem → Prop} (e : M[j]? = some (.lst (cs.map fun c => .str (oneS c)))) (hl : cs.length ≤ 1000) (q : Q (.str ⟨cs.toArray⟩) M) : H (vJoin (.str (Str.ofString "")) (.ref j) M) Q := by
  unfold vJoin
  simp only [seqAt_of e, txts_map]
  rw [if_pos, h_some, join_one]
  · exact q
  · have h0 : (Str.ofString "").length = 0 := by decide
    have hs : ∀ cs : List Nat, ((cs.map oneS).map (·.length)).sum = cs.length := by
      intro cs
      induction cs with
      | nil => rfl
      | cons c cs ih => simp only [List.map_cons, List.sum_cons, ih, List.length_cons]; rw [Nat.add_comm]; rfl
    rw [h0, Nat.mul_zero, Nat.add_zero, hs]
    exact Nat.le_trans hl (by decide)
abbrev abc2 : Str := Str.ofString "abcdefghijklmnopqrstuvwxyzA1 -_."
theorem ix_sign {z : Str} {c : Int} {M : Mem} {Q : Vl → Mem → Prop} (hz : z.length ≤ 1000) (h0 : 0 ≤ c) (h1 : c < z.length) (q : ∀ x, x ∈ z.cps.toList → Q (.str (oneS x)) M) : H (vIx (.str z) (.int c) M) Q := by
  obtain ⟨x, hx, ex⟩ := atI_mem (xs := z.cps.toList) h0 (by rw [show z.cps.toList.length = z.length from by simp [Str.length]]; exact h1)
  rw [ix_str (le_lim hz) ex]
  exact q x hx
theorem text_ok {k : Nat} {M : Mem} {Q : Vl → Mem → Prop} (hk : Held k M) (q : ∀ x M', Gr k M M' → PyData.strOk x = true → x.length ≤ 10 → Q (.str x) M') : H (m_law_text [.ref k] M) Q := by
  unfold m_law_text
  simp only [w_var, w_c, w_2, w_3, w_aNil, w_aCons, w_A, w_and, w_or, w_if, w_neg, w_isi, w_sl, w_oNone, w_oSome, w_app, w_revT, w_lenSet, w_tV, w_tAn, w_tO, w_tN, w_tYs, w_sNil, w_sCons, w_then_nx, w_then_rt, w_ret, w_ex, w_sIf, w_asg, w_gN, w_gsNil, w_gsCons, w_gT, w_run, w_out_rt, w_out_nx, w_mkT, w_mkL, w_v1, h_some, List.map_cons, List.map_nil, List.length_cons, List.length_nil, List.cons_append, List.nil_append, List.replicate, List.set_cons_zero, List.set_cons_succ, List.getElem?_cons_zero, List.getElem?_cons_succ, Nat.reduceAdd, Nat.reduceSub, Nat.reduceLeDiff, true_and, and_true, Vl.int.injEq, Vl.bl.injEq, exists_eq_left', w_lc, w_iR1, wipeE]
  have g1 : Gr k M (M ++ [.lst [.str abc, .str abc2]]) := (Gr.refl hk).app _
  have hne : M.length ≠ k := by have := hk.lt; omega
  refine take_ok g1.held (by decide) (by decide) fun c M1 h0 h1 g2 l2 => ?_
  have e1 := g2.at hne (app_at M [] _)
  refine pick e1 h0 (by simpa using h1) fun S hS => ?_
  have hS' : ∃ s : Str, S = .str s ∧ 0 < s.length ∧ s.length ≤ 32 ∧ s.cps.all (· < 0x110000) = true := by
    rcases List.mem_cons.mp hS with rfl | hS
    · exact ⟨abc, rfl, by decide +kernel, by decide +kernel, by decide +kernel⟩
    · rcases List.mem_cons.mp hS with rfl | hS
      · exact ⟨abc2, rfl, by decide +kernel, by decide +kernel, by decide +kernel⟩
      · cases hS
  obtain ⟨s, rfl, s0, s1, s2⟩ := hS'
  refine take_ok g2.held (by decide) (by decide) fun m M2 m0 m1 g3 l3 => ?_
  refine ⟨m, rfl, ⟨by omega, by omega⟩, ?_⟩
  refine lc_draw s.cps.toList m.toNat g3.held (Nat.le_refl _) (by omega) ?_ ?_
  · intro x M' g
    simp only [w_var, w_c, w_2, w_3, w_aNil, w_aCons, w_A, w_and, w_or, w_if, w_neg, w_isi, w_sl, w_oNone, w_oSome, w_app, w_revT, w_lenSet, w_tV, w_tAn, w_tO, w_tN, w_tYs, w_sNil, w_sCons, w_then_nx, w_then_rt, w_ret, w_ex, w_sIf, w_asg, w_gN, w_gsNil, w_gsCons, w_gT, w_run, w_out_rt, w_out_nx, w_mkT, w_mkL, w_v1, h_some, List.map_cons, List.map_nil, List.length_cons, List.length_nil, List.cons_append, List.nil_append, List.replicate, List.set_cons_zero, List.set_cons_succ, List.getElem?_cons_zero, List.getElem?_cons_succ, Nat.reduceAdd, Nat.reduceSub, Nat.reduceLeDiff, true_and, and_true, Vl.int.injEq, Vl.bl.injEq, exists_eq_left']
    rw [w_lenS (by exact le_lim (by omega))]
    refine take_ok g.held (by omega) (by omega) fun c M3 c0 c1 g4 _ => ?_
    exact ix_sign (by omega) c0 c1 fun z hz => ⟨⟨z, hz, rfl⟩, g4⟩
  · intro cs M' hl hm e g
    refine join_ok e (by omega) (q _ _ (g1.trans (g2.trans (g3.trans g))) ?_ ?_)
    · show (cs.toArray).all (· < 0x110000) = true
      rw [List.all_toArray, List.all_eq_true]
      intro c hc
      have hs := hm c hc
      rw [← Array.all_toList, List.all_eq_true] at s2
      exact s2 c hs
    · show cs.toArray.size ≤ 10
      simp
      omega
theorem all_cons {α : Type} {p : α → Prop} {x : α} {xs : List α} (h : p x) (t : ∀ y ∈ xs, p y) : ∀ y ∈ x :: xs, p y := fun y hy => by
  rcases List.mem_cons.mp hy with rfl | hy
  · exact h
  · exact t y hy
theorem all_nil {α : Type} {p : α → Prop} : ∀ y ∈ ([] : List α), p y := fun y hy => nomatch hy
theorem odd_ok {k : Nat} {M : Mem} {Q : Vl → Mem → Prop} (hk : Held k M) (q : ∀ v M', Gr k M M' → OkV k 5 M' v → Q v M') : H (m_law_odd [.ref k] M) Q := by
  unfold m_law_odd
  simp only [w_var, w_c, w_2, w_3, w_aNil, w_aCons, w_A, w_and, w_or, w_if, w_neg, w_isi, w_sl, w_oNone, w_oSome, w_app, w_revT, w_lenSet, w_tV, w_tAn, w_tO, w_tN, w_tYs, w_sNil, w_sCons, w_then_nx, w_then_rt, w_ret, w_ex, w_sIf, w_asg, w_gN, w_gsNil, w_gsCons, w_gT, w_run, w_out_rt, w_out_nx, w_mkT, w_mkL, w_v1, h_some, List.map_cons, List.map_nil, List.length_cons, List.length_nil, List.cons_append, List.nil_append, List.replicate, List.set_cons_zero, List.set_cons_succ, List.getElem?_cons_zero, List.getElem?_cons_succ, Nat.reduceAdd, Nat.reduceSub, Nat.reduceLeDiff, true_and, and_true, Vl.int.injEq, Vl.bl.injEq, exists_eq_left']
  have hlt := hk.lt
  have sn : PyData.strOk (Str.ofString "n") = true ∧ (Str.ofString "n").length ≤ 1000 := ⟨by decide +kernel, by decide +kernel⟩
  have sa : PyData.strOk (Str.ofString "a") = true ∧ (Str.ofString "a").length ≤ 1000 := ⟨by decide +kernel, by decide +kernel⟩
  have sp : PyData.strOk (Str.ofString "+") = true ∧ (Str.ofString "+").length ≤ 1000 := ⟨by decide +kernel, by decide +kernel⟩
  have se : PyData.strOk (Str.ofString "") = true ∧ (Str.ofString "").length ≤ 1000 := ⟨by decide +kernel, by decide +kernel⟩
  refine take_ok (((hk.app).app).app) (by decide) (by decide) fun c M1 h0 h1 g2 l2 => ?_
  have g1 := (((Gr.refl hk).app [Ob.lst []]).app [Ob.lst [Vl.str (Str.ofString "n"), Vl.str (Str.ofString "+")]]).app [Ob.lst
            [Vl.int 0, Vl.int 1, Vl.bl true, Vl.bl false, Vl.non, Vl.str (Str.ofString ""), Vl.tup false [],
              Vl.ref (List.length M), Vl.str (Str.ofString "+"),
              Vl.tup false [Vl.str (Str.ofString "n"), Vl.str (Str.ofString "+")],
              Vl.ref (List.length (M ++ [Ob.lst []])),
              Vl.tup false
                [Vl.tup false
                    [Vl.str (Str.ofString "a"),
                      Vl.tup false [Vl.tup false [Vl.str (Str.ofString "n"), Vl.str (Str.ofString "+")]]]]]]
  have g := g1.trans g2
  refine pick (g2.at (by simp only [List.length_append]; omega) (app_at _ [] _)) h0 (by simpa using h1) fun v hv => q v M1 g ?_
  refine OkV.grow g2 ?_
  revert v
  refine all_cons trivial (all_cons trivial (all_cons trivial (all_cons trivial (all_cons trivial (all_cons se (all_cons all_nil (all_cons ⟨by omega, [], ?_, all_nil⟩ (all_cons sp (all_cons (all_cons sn (all_cons sp all_nil)) (all_cons ⟨?_, [Vl.str (Str.ofString "n"), Vl.str (Str.ofString "+")], ?_, all_cons sn (all_cons sp all_nil)⟩ (all_cons (all_cons (all_cons sa (all_cons (all_cons (all_cons sn (all_cons sp all_nil)) all_nil) all_nil)) all_nil) all_nil)))))))))))
  · simp
  · simp only [List.length_append]; omega
  · simp
end K01

set_option Elab.async false
set_option linter.all false
set_option maxRecDepth 100000
set_option maxHeartbeats 4000000
namespace K01
open PySem PySem.Spec PyProof.Rows L2 NdefX GenE Sh
def GS (x : Str) : Prop := PyData.strOk x = true ∧ x.length ≤ 1000
abbrev Sp2 := Str × Str
abbrev Row := Str × List Sp2
def specV (p : Sp2) : Vl := .tup false [.str p.1, .str p.2]
def portsV (ps : List Sp2) : Vl := .tup true (ps.map specV)
def rowV (r : Row) : Vl := .tup false [.str r.1, portsV r.2]
def stockV (rs : List Row) : Vl := .tup true (rs.map rowV)
section
variable {M : Mem} {Q : Vl → Mem → Prop}
theorem w_addT {d d' : Bool} {a b : List Vl} : H (vAdd (.tup d a) (.tup d' b) M) Q = (a.length + b.length ≤ lim ∧ Q (.tup false (a ++ b)) M) := by
  simp only [vAdd, w_ifO]
theorem w_addR {i j : Nat} {a b : List Vl} (ei : M[i]? = some (.lst a)) (ej : M[j]? = some (.lst b)) (hl : a.length + b.length ≤ lim) : H (vAdd (.ref i) (.ref j) M) Q = Q (.ref M.length) (M ++ [.lst (a ++ b)]) := by
  simp only [vAdd, ei, ej, w_ifO, hl, true_and]
theorem w_slT {d : Bool} {xs : List Vl} {lo hi : Option Int} : H (vSl (.tup d xs) lo hi M) Q = Q (.tup false (cutL xs lo hi)) M := h_some
theorem w_mulT {d : Bool} {xs : List Vl} {k : Int} : H (vMul (.tup d xs) (.int k) M) Q = ((xs ≠ [] ∧ 2 ≤ k ∧ k ≤ 1000 ∧ xs.length ≤ 1000) ∧ Q (.tup false (List.replicate k.toNat xs).flatten) M) := by
  simp only [vMul, w_ifO]
theorem w_listT {d : Bool} {xs : List Vl} : H (vList (.tup d xs) M) Q = Q (.ref M.length) (M ++ [.lst xs]) := h_some
end
theorem cut_mem {α : Type} {xs : List α} {lo hi : Option Int} {x : α} (h : x ∈ cutL xs lo hi) : x ∈ xs := List.mem_of_mem_drop (List.mem_of_mem_take h)
theorem cut_len {α : Type} {xs : List α} {lo hi : Option Int} : (cutL xs lo hi).length ≤ xs.length := by
  unfold cutL
  rw [List.length_take, List.length_drop]
  omega
theorem rep_len {α : Type} (X : List α) : ∀ n : Nat, (List.replicate n X).flatten.length = n * X.length
  | 0 => by simp
  | n + 1 => by
    rw [List.replicate_succ, List.flatten_cons, List.length_append, rep_len X n, Nat.succ_mul, Nat.add_comm]
theorem all_app {α : Type} {p : α → Prop} {xs ys : List α} (h : ∀ y ∈ xs, p y) (t : ∀ y ∈ ys, p y) : ∀ y ∈ xs ++ ys, p y := fun y hy => by
  rcases List.mem_append.mp hy with hy | hy
  · exact h y hy
  · exact t y hy
theorem Held.gr {k : Nat} {M N : Mem} (h : Held k M) : Gr k M (M ++ N) := (Gr.refl h).app N
theorem bent_spec_ok {k : Nat} {M : Mem} {p : Sp2} {Q : Vl → Mem → Prop} (hk : Held k M) (h1 : GS p.1) (h2 : GS p.2) (q : ∀ v M', Gr k M M' → OkV k 6 M' v → Q v M') : H (m_law_bent_spec [.ref k, specV p] M) Q := by
  unfold m_law_bent_spec
  simp only [w_var, w_c, w_2, w_3, w_aNil, w_aCons, w_A, w_and, w_or, w_if, w_neg, w_isi, w_sl, w_oNone, w_oSome, w_app, w_revT, w_lenSet, w_tV, w_tAn, w_tO, w_tN, w_tYs, w_sNil, w_sCons, w_then_nx, w_then_rt, w_ret, w_ex, w_sIf, w_asg, w_gN, w_gsNil, w_gsCons, w_gT, w_run, w_out_rt, w_out_nx, w_mkT, w_mkL, w_v1, h_some, List.map_cons, List.map_nil, List.length_cons, List.length_nil, List.cons_append, List.nil_append, List.replicate, List.set_cons_zero, List.set_cons_succ, List.getElem?_cons_zero, List.getElem?_cons_succ, Nat.reduceAdd, Nat.reduceSub, Nat.reduceLeDiff, true_and, and_true, Vl.int.injEq, Vl.bl.injEq, exists_eq_left', specV]
  have hlt := hk.lt
  refine take_ok hk.app (by decide) (by decide) fun c M1 c0 c1 g2 l2 => ?_
  have g1 := hk.gr.trans g2
  refine pick (g2.at (by omega) (app_at _ [] _)) c0 (by simpa using c1) fun sd hsd => ?_
  have sp : GS (Str.ofString "+") := ⟨by decide +kernel, by decide +kernel⟩
  have hsd : ∀ M' : Mem, OkV k 2 M' sd := by
    intro M'
    revert sd
    exact all_cons ⟨by decide +kernel, by decide +kernel⟩ (all_cons ⟨by decide +kernel, by decide +kernel⟩ (all_cons ⟨by decide +kernel, by decide +kernel⟩ (all_cons ⟨by decide +kernel, by decide +kernel⟩ (all_cons ⟨by decide +kernel, by decide +kernel⟩ (all_cons trivial (all_cons trivial (all_cons trivial (all_cons (all_cons sp all_nil) all_nil))))))))
  simp only [w_var, w_c, w_2, w_3, w_aNil, w_aCons, w_A, w_and, w_or, w_if, w_neg, w_isi, w_sl, w_oNone, w_oSome, w_app, w_revT, w_lenSet, w_tV, w_tAn, w_tO, w_tN, w_tYs, w_sNil, w_sCons, w_then_nx, w_then_rt, w_ret, w_ex, w_sIf, w_asg, w_gN, w_gsNil, w_gsCons, w_gT, w_run, w_out_rt, w_out_nx, w_mkT, w_mkL, w_v1, h_some, List.map_cons, List.map_nil, List.length_cons, List.length_nil, List.cons_append, List.nil_append, List.replicate, List.set_cons_zero, List.set_cons_succ, List.getElem?_cons_zero, List.getElem?_cons_succ, Nat.reduceAdd, Nat.reduceSub, Nat.reduceLeDiff, true_and, and_true, Vl.int.injEq, Vl.bl.injEq, exists_eq_left', ix_tup atI0, ix_tup atI1, w_addT, show 3 ≤ lim by decide]
  have hlt1 := g1.held.lt
  refine text_ok g1.held.app.app fun tx M2 g3 t1 t2 => ?_
  refine odd_ok g3.held fun od M3 g4 ho => ?_
  rw [w_addR ((g4.app _).at (by simp only [List.length_append]; omega) (g3.at (by simp only [List.length_append]; omega) (app_at _ [] _))) (app_at _ [] _) (by simp only [List.length_cons, List.length_nil]; decide)]
  refine take_ok g4.held.app.app (by decide) (by decide) fun c M4 d0 d1 g5 l5 => ?_
  have gA : Gr k (M1 ++ [Ob.lst [.str p.1, .str p.2]]) M4 := g1.held.app.gr.trans (g3.trans (g4.trans (g4.held.gr.trans (g4.held.app.gr.trans g5))))
  have gO : Gr k M3 M4 := g4.held.gr.trans (g4.held.app.gr.trans g5)
  refine pick (g5.at (by simp only [List.length_append]; have := g4.held.lt; omega) (app_at _ [] _)) d0 (by simpa using d1) fun v hv => q v M4 (g1.trans (g1.held.gr.trans gA)) ?_
  have oo : OkV k 5 M4 od := ho.grow gO
  have ot : OkV k 1 M4 (.str tx) := ⟨t1, by omega⟩
  revert v
  refine all_cons ?_ (all_cons ?_ (all_cons ?_ (all_cons ?_ (all_cons ?_ (all_cons ?_ (all_cons ?_ (all_cons ?_ all_nil)))))))
  · exact all_cons h1 (all_cons h2 all_nil)
  · exact ⟨by omega, _, gA.at (by omega) (app_at _ [] _), all_cons h1 (all_cons h2 all_nil)⟩
  · exact all_cons h1 all_nil
  · exact all_cons h1 (all_cons h2 (all_cons sp all_nil))
  · exact all_cons h2 (all_cons h1 all_nil)
  · exact all_cons h1 (all_cons ((hsd M4).up (by decide)) all_nil)
  · exact all_cons (ot.up (by decide)) (all_cons h2 all_nil)
  · exact all_cons oo (all_cons h2 all_nil)
def GRow (r : Row) : Prop := GS r.1 ∧ (∀ p ∈ r.2, GS p.1 ∧ GS p.2) ∧ 1 ≤ r.2.length ∧ r.2.length ≤ 4
theorem bent_row_ok {k : Nat} {M : Mem} {r : Row} {Q : Vl → Mem → Prop} (hk : Held k M) (hr : GRow r) (q : ∀ v M', Gr k M M' → OkV k 8 M' v → Q v M') : H (m_law_bent_row [.ref k, rowV r] M) Q := by
  unfold m_law_bent_row
  simp only [w_var, w_c, w_2, w_3, w_aNil, w_aCons, w_A, w_and, w_or, w_if, w_neg, w_isi, w_sl, w_oNone, w_oSome, w_app, w_revT, w_lenSet, w_tV, w_tAn, w_tO, w_tN, w_tYs, w_sNil, w_sCons, w_then_nx, w_then_rt, w_ret, w_ex, w_sIf, w_asg, w_gN, w_gsNil, w_gsCons, w_gT, w_run, w_out_rt, w_out_nx, w_mkT, w_mkL, w_v1, h_some, List.map_cons, List.map_nil, List.length_cons, List.length_nil, List.cons_append, List.nil_append, List.replicate, List.set_cons_zero, List.set_cons_succ, List.getElem?_cons_zero, List.getElem?_cons_succ, Nat.reduceAdd, Nat.reduceSub, Nat.reduceLeDiff, true_and, and_true, Vl.int.injEq, Vl.bl.injEq, exists_eq_left', rowV, portsV]
  have hlt := hk.lt
  simp only [ix_tup atI0, ix_tup atI1, w_lenT, List.length_map]
  obtain ⟨hn, hp, l1, l4⟩ := hr
  refine take_ok hk (by omega) (by omega) fun c M1 c0 c1 g1 _ => ?_
  simp only [w_var, w_c, w_2, w_3, w_aNil, w_aCons, w_A, w_and, w_or, w_if, w_neg, w_isi, w_sl, w_oNone, w_oSome, w_app, w_revT, w_lenSet, w_tV, w_tAn, w_tO, w_tN, w_tYs, w_sNil, w_sCons, w_then_nx, w_then_rt, w_ret, w_ex, w_sIf, w_asg, w_gN, w_gsNil, w_gsCons, w_gT, w_run, w_out_rt, w_out_nx, w_mkT, w_mkL, w_v1, h_some, List.map_cons, List.map_nil, List.length_cons, List.length_nil, List.cons_append, List.nil_append, List.replicate, List.set_cons_zero, List.set_cons_succ, List.getElem?_cons_zero, List.getElem?_cons_succ, Nat.reduceAdd, Nat.reduceSub, Nat.reduceLeDiff, true_and, and_true, Vl.int.injEq, Vl.bl.injEq, exists_eq_left', w_slT]
  have hc : c.toNat < r.2.length := by omega
  have ec : atI (r.2.map specV) c = some (specV r.2[c.toNat]) := by
    rw [atI_of c0 (by rw [List.length_map]; omega)]
    simp [hc]
  rw [ix_tup ec]
  have hpc := hp r.2[c.toNat] (List.getElem_mem hc)
  refine bent_spec_ok g1.held hpc.1 hpc.2 fun bs M2 g2 hbs => ?_
  simp only [w_var, w_c, w_2, w_3, w_aNil, w_aCons, w_A, w_and, w_or, w_if, w_neg, w_isi, w_sl, w_oNone, w_oSome, w_app, w_revT, w_lenSet, w_tV, w_tAn, w_tO, w_tN, w_tYs, w_sNil, w_sCons, w_then_nx, w_then_rt, w_ret, w_ex, w_sIf, w_asg, w_gN, w_gsNil, w_gsCons, w_gT, w_run, w_out_rt, w_out_nx, w_mkT, w_mkL, w_v1, h_some, List.map_cons, List.map_nil, List.length_cons, List.length_nil, List.cons_append, List.nil_append, List.replicate, List.set_cons_zero, List.set_cons_succ, List.getElem?_cons_zero, List.getElem?_cons_succ, Nat.reduceAdd, Nat.reduceSub, Nat.reduceLeDiff, true_and, and_true, Vl.int.injEq, Vl.bl.injEq, exists_eq_left', w_addT, w_addI, w_slT, w_mulT, w_listT]
  have hlim : lim = 100000 := rfl
  have hP : ∀ x ∈ r.2.map specV, ∀ M' : Mem, OkV k 2 M' x := by
    intro x hx M'
    obtain ⟨p, hpm, rfl⟩ := List.mem_map.mp hx
    exact all_cons (hp p hpm).1 (all_cons (hp p hpm).2 all_nil)
  have hPl : (r.2.map specV).length = r.2.length := List.length_map ..
  generalize r.2.map specV = P at hP hPl ⊢
  have cl : ∀ lo hi, (cutL P lo hi).length ≤ 4 := fun lo hi => Nat.le_trans cut_len (by omega)
  have cl1 := cl none (some c)
  have cl2 := cl (some (c + 1)) none
  have cl3 := cl none (some 1)
  have hPn : P ≠ [] := fun e => by rw [e] at hPl; simp at hPl; omega
  have hC : ∀ lo hi, ∀ x ∈ cutL P lo hi, ∀ M', OkV k 2 M' x := fun lo hi x hx => hP x (cut_mem hx)
  have hF : ∀ n (X : List Vl), (∀ x ∈ X, ∀ M', OkV k 2 M' x) → ∀ x ∈ (List.replicate n X).flatten, ∀ M', OkV k 2 M' x := by
    intro n X hX x hx
    obtain ⟨l, hl, hx⟩ := List.mem_flatten.mp hx
    rw [(List.mem_replicate.mp hl).2] at hx
    exact hX x hx
  refine ⟨by omega, by simp only [List.length_append, List.length_cons, List.length_nil]; omega, ⟨fun e => ?_, by omega, by omega, by omega⟩, ?_, ⟨hPn, by omega, by omega, by omega⟩, ⟨hPn, by omega, by omega, by omega⟩, by omega, ?_⟩
  · have e1 : HT.sIx P.length P.length (some 1) = 1 := by
      have := HT.sIx_nat P.length P.length 1
      rw [show some ((1 : Nat) : Int) = some (1 : Int) from rfl] at this
      omega
    have := congrArg List.length e
    unfold cutL at this
    rw [e1, HT.sIx_none, List.length_take, List.length_drop, List.length_nil] at this
    omega
  · rw [rep_len]
    have : Int.toNat 4 = 4 := rfl
    rw [this]
    omega
  have hA : ∀ x ∈ [Vl.tup false [Vl.str r.1, Vl.tup false (cutL P none (some c) ++ [bs] ++ cutL P (some (c + 1)) none)], Vl.tup false [Vl.str r.1, Vl.tup false []], Vl.tup false [Vl.str r.1, Vl.tup false (P ++ (List.replicate (Int.toNat 4) (cutL P none (some 1))).flatten)], Vl.tup false [Vl.str r.1, Vl.tup false (cutL (List.replicate (Int.toNat 5) P).flatten none (some 5))]], OkV k 8 M2 x := by
    refine all_cons (all_cons hn (all_cons (fun x hx => ?_) all_nil)) (all_cons (all_cons hn (all_cons all_nil all_nil)) (all_cons (all_cons hn (all_cons (fun x hx => ?_) all_nil)) (all_cons (all_cons hn (all_cons (fun x hx => ?_) all_nil)) all_nil)))
    · rcases List.mem_append.mp hx with hx | hx
      · rcases List.mem_append.mp hx with hx | hx
        · exact (hC _ _ x hx M2).up (by decide)
        · rw [List.mem_singleton.mp hx]
          exact hbs
      · exact (hC _ _ x hx M2).up (by decide)
    · rcases List.mem_append.mp hx with hx | hx
      · exact (hP x hx M2).up (by decide)
      · exact (hF _ _ (hC _ _) x hx M2).up (by decide)
    · exact (hF _ _ hP x (cut_mem hx) M2).up (by decide)
  have hB4 : ∀ x ∈ cutL (List.replicate (Int.toNat 4) P).flatten none (some 4), ∀ M', OkV k 2 M' x := fun x hx => hF _ _ hP x (cut_mem hx)
  have hAl : [Vl.tup false [Vl.str r.1, Vl.tup false (cutL P none (some c) ++ [bs] ++ cutL P (some (c + 1)) none)], Vl.tup false [Vl.str r.1, Vl.tup false []], Vl.tup false [Vl.str r.1, Vl.tup false (P ++ (List.replicate (Int.toNat 4) (cutL P none (some 1))).flatten)], Vl.tup false [Vl.str r.1, Vl.tup false (cutL (List.replicate (Int.toNat 5) P).flatten none (some 5))]].length = 4 := rfl
  generalize [Vl.tup false [Vl.str r.1, Vl.tup false (cutL P none (some c) ++ [bs] ++ cutL P (some (c + 1)) none)], Vl.tup false [Vl.str r.1, Vl.tup false []], Vl.tup false [Vl.str r.1, Vl.tup false (P ++ (List.replicate (Int.toNat 4) (cutL P none (some 1))).flatten)], Vl.tup false [Vl.str r.1, Vl.tup false (cutL (List.replicate (Int.toNat 5) P).flatten none (some 5))]] = A at hA hAl ⊢
  generalize cutL (List.replicate (Int.toNat 4) P).flatten none (some 4) = P4 at hB4 ⊢
  have g12 := g1.trans g2
  have k2 := g2.held
  have hlt2 := k2.lt
  rw [w_addR (by rw [List.append_assoc, List.append_assoc, List.append_assoc]; exact app_at _ _ _) (app_at _ [] _) (by rw [hAl]; simp only [List.length_cons, List.length_nil]; omega)]
  refine text_ok k2.app.app.app.app.app fun tx M3 g3 t1 t2 => ?_
  refine odd_ok g3.held fun od M4 g4 ho => ?_
  refine odd_ok g4.held fun od' M5 g5 ho' => ?_
  rw [w_addR ((g3.trans (g4.trans (g5.app _))).at (by simp only [List.length_append]; omega) (app_at _ [] _)) (app_at _ [] _) (by simp only [List.length_append, hAl, List.length_cons, List.length_nil]; omega)]
  refine take_ok g5.held.app.app (by decide) (by decide) fun c' M6 d0 d1 g6 l6 => ?_
  have gO' : Gr k M5 M6 := g5.held.gr.trans (g5.held.app.gr.trans g6)
  have gO : Gr k M4 M6 := g5.trans gO'
  have gT : Gr k M3 M6 := g4.trans gO
  have gZ := g3.trans gT
  have gX := k2.app.app.app.app.gr.trans gZ
  have gY := k2.app.app.app.gr.trans gX
  have gL2 := k2.app.app.gr.trans gY
  have gL1 := k2.app.gr.trans gL2
  have gL0 := k2.gr.trans gL1
  refine pick (g6.at (by simp only [List.length_append]; have := g5.held.lt; omega) (app_at _ [] _)) d0 (by simp only [List.length_append, hAl, List.length_cons, List.length_nil]; omega) fun v hv => q v M6 (g12.trans gL0) ?_
  have oP : OkV k 3 M6 (.tup true P) := fun x hx => hP x hx M6
  revert v
  refine all_app (all_app (fun v hv => (hA v hv).grow gL0) (all_cons ?_ (all_cons ?_ (all_cons ?_ (all_cons ?_ (all_cons ?_ all_nil)))))) (all_cons ?_ (all_cons ?_ (all_cons ?_ all_nil)))
  · exact all_cons hn (all_cons (fun x hx => (hB4 x hx M6).up (by decide)) all_nil)
  · exact all_cons hn (all_cons ⟨by simp only [List.length_append]; omega, P, gL2.at (by simp only [List.length_append]; omega) (app_at _ [] _), fun x hx => (hP x hx M6).up (by decide)⟩ all_nil)
  · exact ⟨by simp only [List.length_append]; omega, [.str r.1, .tup true P], gY.at (by simp only [List.length_append]; omega) (app_at _ [] _), all_cons hn (all_cons (oP.up (by decide)) all_nil)⟩
  · exact all_cons hn all_nil
  · exact all_cons hn (all_cons (oP.up (by decide)) (all_cons trivial all_nil))
  · exact all_cons ⟨t1, by omega⟩ (all_cons (oP.up (by decide)) all_nil)
  · exact all_cons ((ho.grow gO).up (by decide)) (all_cons (oP.up (by decide)) all_nil)
  · exact (ho'.grow gO').up (by decide)
end K01

set_option Elab.async false
set_option linter.all false
set_option maxRecDepth 100000
set_option maxHeartbeats 4000000
namespace K01
open PySem PySem.Spec PyProof.Rows L2 NdefX GenE Sh
theorem GRow.ok {k : Nat} {M : Mem} {r : Row} (h : GRow r) : OkV k 4 M (rowV r) := by
  refine all_cons h.1 (all_cons (fun x hx => ?_) all_nil)
  obtain ⟨p, hp, rfl⟩ := List.mem_map.mp hx
  exact all_cons (h.2.1 p hp).1 (all_cons (h.2.1 p hp).2 all_nil)
theorem GRow.okP {k : Nat} {M : Mem} {r : Row} (h : GRow r) : OkV k 3 M (portsV r.2) := by
  refine fun x hx => ?_
  obtain ⟨p, hp, rfl⟩ := List.mem_map.mp hx
  exact all_cons (h.2.1 p hp).1 (all_cons (h.2.1 p hp).2 all_nil)
section
variable {M : Mem} {Q : Vl → Mem → Prop}
theorem w_addS {a b : Str} : H (vAdd (.str a) (.str b) M) Q = (a.length + b.length ≤ lim ∧ Q (.str (a ++ b)) M) := by
  simp only [vAdd, w_ifO]
theorem w_slS {z : Str} {lo hi : Option Int} (hz : z.length ≤ lim) : H (vSl (.str z) lo hi M) Q = Q (.str (cutS z lo hi)) M := by
  simp only [vSl, hz, if_true, h_some]
end
theorem len_cps (z : Str) : z.cps.toList.length = z.length := by simp [Str.length]
theorem gs_app {a b : Str} (ha : GS a) (hb : GS b) (hl : a.length + b.length ≤ 1000) : GS (a ++ b) := by
  refine ⟨?_, ?_⟩
  · show (a ++ b).cps.all (· < 0x110000) = true
    have h1 : a.cps.all (· < 0x110000) = true := ha.1
    have h2 : b.cps.all (· < 0x110000) = true := hb.1
    rw [← Array.all_toList] at h1 h2 ⊢
    rw [app_cps, List.all_append, h1, h2]
    rfl
  · rw [← len_cps, app_cps, List.length_append, len_cps, len_cps]
    exact hl
abbrev a8 : Str := Str.ofString "abcdefgh"
theorem a8_gs {c : Nat} (h : c ∈ a8.cps.toList) : GS (Str.ofString "zz" ++ oneS c) := by
  have z : GS (Str.ofString "zz") := ⟨by decide +kernel, by decide +kernel⟩
  have ha : a8.cps.toList.all (· < 0x110000) = true := by decide +kernel
  have hc := List.all_eq_true.mp ha c h
  refine gs_app z ⟨?_, ?_⟩ ?_
  · show (#[c] : Array Nat).all (· < 0x110000) = true
    simpa using hc
  · show 1 ≤ 1000
    decide
  · show (Str.ofString "zz").length + 1 ≤ 1000
    decide +kernel
theorem bent_ok {k : Nat} {M : Mem} {rs : List Row} {Q : Vl → Mem → Prop} (hk : Held k M) (hr : ∀ r ∈ rs, GRow r) (l1 : 1 ≤ rs.length) (l4 : rs.length ≤ 4) (q : ∀ v M', Gr k M M' → OkV k 9 M' v → Q v M') : H (m_law_bent [.ref k, stockV rs] M) Q := by
  unfold m_law_bent
  simp only [w_var, w_c, w_2, w_3, w_aNil, w_aCons, w_A, w_and, w_or, w_if, w_neg, w_isi, w_sl, w_oNone, w_oSome, w_app, w_revT, w_lenSet, w_tV, w_tAn, w_tO, w_tN, w_tYs, w_sNil, w_sCons, w_then_nx, w_then_rt, w_ret, w_ex, w_sIf, w_asg, w_gN, w_gsNil, w_gsCons, w_gT, w_run, w_out_rt, w_out_nx, w_mkT, w_mkL, w_v1, h_some, List.map_cons, List.map_nil, List.length_cons, List.length_nil, List.cons_append, List.nil_append, List.replicate, List.set_cons_zero, List.set_cons_succ, List.getElem?_cons_zero, List.getElem?_cons_succ, Nat.reduceAdd, Nat.reduceSub, Nat.reduceLeDiff, true_and, and_true, Vl.int.injEq, Vl.bl.injEq, exists_eq_left', stockV, w_for, w_iSeq]
  have hlt := hk.lt
  simp only [w_lenT, List.length_map]
  refine take_ok hk (by omega) (by omega) fun c M1 c0 c1 g1 _ => ?_
  have hc : c.toNat < rs.length := by omega
  have ec : atI (rs.map rowV) c = some (rowV rs[c.toNat]) := by
    rw [atI_of c0 (by rw [List.length_map]; omega)]
    simp [hc]
  rw [ix_tup ec]
  refine bent_row_ok g1.held (hr _ (List.getElem_mem hc)) fun bw M2 g2 hbw => ?_
  have g12 := g1.trans g2
  have h8 : (Str.ofString "abcdefgh").length = 8 := by decide +kernel
  have hzz : (Str.ofString "zz").length = 2 := by decide +kernel
  have hlim : lim = 100000 := rfl
  obtain ⟨r0, rt, e0⟩ : ∃ r0 rt, rs = r0 :: rt := by
    cases rs with
    | nil => simp at l1
    | cons a b => exact ⟨a, b, rfl⟩
  have hr0 : GRow r0 := hr r0 (by rw [e0]; exact .head _)
  have ei : atI (rs.map rowV) 0 = some (rowV r0) := by rw [e0, List.map_cons, atI0]
  simp only [w_subI]
  refine ix_sign (by omega) (by omega) (by omega) fun sg hsg => ?_
  rw [w_addS]
  refine ⟨by rw [hzz]; show 2 + 1 ≤ lim; omega, ?_⟩
  simp only [ix_tup ei, rowV, ix_tup atI1, w_var, w_c, w_2, w_3, w_aNil, w_aCons, w_A, w_and, w_or, w_if, w_neg, w_isi, w_sl, w_oNone, w_oSome, w_app, w_revT, w_lenSet, w_tV, w_tAn, w_tO, w_tN, w_tYs, w_sNil, w_sCons, w_then_nx, w_then_rt, w_ret, w_ex, w_sIf, w_asg, w_gN, w_gsNil, w_gsCons, w_gT, w_run, w_out_rt, w_out_nx, w_mkT, w_mkL, w_v1, h_some, List.map_cons, List.map_nil, List.length_cons, List.length_nil, List.cons_append, List.nil_append, List.replicate, List.set_cons_zero, List.set_cons_succ, List.getElem?_cons_zero, List.getElem?_cons_succ, Nat.reduceAdd, Nat.reduceSub, Nat.reduceLeDiff, true_and, and_true, Vl.int.injEq, Vl.bl.injEq, exists_eq_left']
  refine take_ok g2.held.app (by decide) (by decide) fun b M3 b0 b1 g3 _ => ?_
  have hlt2 := g2.held.lt
  refine pick (g3.at (by omega) (app_at _ [] _)) b0 (by simpa using b1) fun n89 h89 => ?_
  obtain ⟨n, rfl⟩ : ∃ n : Int, n89 = .int n := by
    revert n89
    exact all_cons ⟨8, rfl⟩ (all_cons ⟨9, rfl⟩ all_nil)
  rw [w_subI]
  refine ⟨_, rfl, ?_⟩
  rw [w_slS (by omega)]
  have hz : ∀ x ∈ (cutS a8 none (some (n - (rs.length : Int)))).cps.toList, x ∈ a8.cps.toList := fun x hx => by
    unfold cutS at hx
    exact List.mem_of_mem_drop (List.mem_of_mem_take hx)
  have hzl : (cutS a8 none (some (n - (rs.length : Int)))).length ≤ 8 := by
    rw [← len_cps]
    unfold cutS
    simp only [List.length_take, List.length_drop]
    have e1 := len_cps a8
    have e2 : a8.length = 8 := h8
    omega
  generalize cutS a8 none (some (n - (rs.length : Int))) = z at hz hzl ⊢
  have hR : ∀ x ∈ rs.map rowV, ∀ M' : Mem, OkV k 4 M' x := fun x hx M' => by
    obtain ⟨r, hm, rfl⟩ := List.mem_map.mp hx
    exact (hr r hm).ok
  have hRl : (rs.map rowV).length = rs.length := List.length_map ..
  refine for_run (Sh.signs z) (fun i ρ M' => M' = M3 ∧ ∃ d xs o, ρ = [some (.ref k), some (.tup true (rs.map rowV)), some (.int c), some bw, some (.tup false [.str (Str.ofString "zz" ++ oneS sg), portsV r0.2]), some (.tup d xs), o, none] ∧ xs.length ≤ 4 + i ∧ ∀ x ∈ xs, ∀ M' : Mem, OkV k 4 M' x) ⟨rfl, true, rs.map rowV, none, rfl, by omega, hR⟩ (by rw [signs_len]; exact Nat.le_refl _) ?_ ?_
  · rintro i x ρ M' ex ⟨rfl, d, xs, o, rfl, hl, hx⟩
    refine ⟨rfl, ?_⟩
    have hi : i < z.length := by have := (List.getElem?_eq_some_iff.mp ex).1; rwa [signs_len] at this
    obtain ⟨s, hs, rfl⟩ : ∃ s, s ∈ z.cps.toList ∧ x = .str (oneS s) := by
      have := List.mem_of_getElem? ex
      unfold Sh.signs at this
      obtain ⟨s, hs, rfl⟩ := List.mem_map.mp this
      exact ⟨s, hs, rfl⟩
    simp only [w_var, w_c, w_2, w_3, w_aNil, w_aCons, w_A, w_and, w_or, w_if, w_neg, w_isi, w_sl, w_oNone, w_oSome, w_app, w_revT, w_lenSet, w_tV, w_tAn, w_tO, w_tN, w_tYs, w_sNil, w_sCons, w_then_nx, w_then_rt, w_ret, w_ex, w_sIf, w_asg, w_gN, w_gsNil, w_gsCons, w_gT, w_run, w_out_rt, w_out_nx, w_mkT, w_mkL, w_v1, h_some, List.map_cons, List.map_nil, List.length_cons, List.length_nil, List.cons_append, List.nil_append, List.replicate, List.set_cons_zero, List.set_cons_succ, List.getElem?_cons_zero, List.getElem?_cons_succ, Nat.reduceAdd, Nat.reduceSub, Nat.reduceLeDiff, true_and, and_true, Vl.int.injEq, Vl.bl.injEq, exists_eq_left', w_addS, ix_tup ei, rowV, ix_tup atI1, w_addT]
    refine ⟨by rw [hzz]; show 2 + 1 ≤ lim; omega, by omega, .inl ⟨_, _, _, rfl, by simp only [List.length_append, List.length_cons, List.length_nil]; omega, all_app hx (all_cons (fun M' => all_cons (a8_gs (hz s hs)) (all_cons hr0.okP all_nil)) all_nil)⟩⟩
  · rintro ρ M' ⟨rfl, d, xs, o, rfl, hl, hx⟩
    refine ⟨rfl, ?_⟩
    rw [signs_len] at hl
    simp only [w_var, w_c, w_2, w_3, w_aNil, w_aCons, w_A, w_and, w_or, w_if, w_neg, w_isi, w_sl, w_oNone, w_oSome, w_app, w_revT, w_lenSet, w_tV, w_tAn, w_tO, w_tN, w_tYs, w_sNil, w_sCons, w_then_nx, w_then_rt, w_ret, w_ex, w_sIf, w_asg, w_gN, w_gsNil, w_gsCons, w_gT, w_run, w_out_rt, w_out_nx, w_mkT, w_mkL, w_v1, h_some, List.map_cons, List.map_nil, List.length_cons, List.length_nil, List.cons_append, List.nil_append, List.replicate, List.set_cons_zero, List.set_cons_succ, List.getElem?_cons_zero, List.getElem?_cons_succ, Nat.reduceAdd, Nat.reduceSub, Nat.reduceLeDiff, true_and, and_true, Vl.int.injEq, Vl.bl.injEq, exists_eq_left', w_slT, w_addT, w_addI, w_listT]
    have cl : ∀ lo hi, (cutL (rs.map rowV) lo hi).length ≤ 4 := fun lo hi => Nat.le_trans cut_len (by omega)
    have cl1 := cl none (some c)
    have cl2 := cl (some (c + 1)) none
    have cl3 := cl (some c) (some (c + 1))
    refine ⟨by omega, by simp only [List.length_append, List.length_cons, List.length_nil]; omega, by omega, by omega, by omega, ?_⟩
    have k3 := g3.held
    have hlt3 := k3.lt
    have hC : ∀ lo hi, ∀ x ∈ cutL (rs.map rowV) lo hi, ∀ M', OkV k 4 M' x := fun lo hi x hx => hR x (cut_mem hx)
    have hmore : ∀ M', OkV k 4 M' (.tup false [.str (Str.ofString "zz" ++ oneS sg), portsV r0.2]) := fun M' => all_cons (a8_gs hsg) (all_cons hr0.okP all_nil)
    refine odd_ok k3.app.app fun od M4 g4 ho => ?_
    rw [w_addR ((g4.app _).at (by omega) (by rw [List.append_assoc]; exact app_at _ _ _)) (app_at _ [] _) (by simp only [List.length_cons, List.length_nil]; decide)]
    refine take_ok g4.held.app.app (by decide) (by decide) fun e M5 f0 f1 g5 _ => ?_
    have gO : Gr k M4 M5 := g4.held.gr.trans (g4.held.app.gr.trans g5)
    have gL := g4.trans gO
    have gB := k3.app.gr.trans gL
    have gA : Gr k _ M5 := k3.gr.trans gB
    have gW : Gr k M2 M5 := g2.held.gr.trans (g3.trans gA)
    refine pick (g5.at (by simp only [List.length_append]; have := g4.held.lt; omega) (app_at _ [] _)) f0 (by simpa using f1) fun v hv => q v M5 (g12.trans gW) ?_
    have up4 : ∀ {x : Vl}, (∀ M', OkV k 4 M' x) → OkV k 8 M5 x := fun h => (h M5).up (by decide)
    revert v
    refine all_cons ?_ (all_cons ?_ (all_cons ?_ (all_cons ?_ (all_cons ?_ (all_cons ?_ (all_cons ?_ (all_cons ?_ (all_cons ?_ (all_cons ?_ all_nil)))))))))
    · exact fun x hx => up4 (hR x hx)
    · exact all_app (all_app (fun x hx => up4 (hC _ _ x hx)) (all_cons (hbw.grow gW) all_nil)) (fun x hx => up4 (hC _ _ x hx))
    · exact fun x hx => up4 (hR x (List.mem_reverse.mp hx))
    · exact all_app (fun x hx => up4 (hR x hx)) (fun x hx => up4 (hC _ _ x hx))
    · exact all_nil
    · exact fun x hx' => up4 (hx x hx')
    · exact ⟨by simp only [List.length_append]; omega, rs.map rowV, gL.at (by simp only [List.length_append]; omega) (app_at _ [] _), fun x hx => up4 (hR x hx)⟩
    · exact all_app (fun x hx => up4 (hR x hx)) (all_cons (up4 hmore) all_nil)
    · exact all_cons (up4 hmore) (fun x hx => up4 (hR x hx))
    · exact (ho.grow gO).up (by decide)
end K01

set_option Elab.async false
set_option linter.all false
set_option maxRecDepth 100000
set_option maxHeartbeats 4000000
namespace K01
open PySem PySem.Spec PyProof.Rows L2 NdefX GenE Sh
abbrev p16 : Str := Str.ofString "abcdefghijklmnop"
def W (x : Str) : Prop := (∀ c ∈ x.cps.toList, c ∈ p16.cps.toList) ∧ 1 ≤ x.length ∧ x.length ≤ 8
def Nm (x : Str) : Prop := nmS x = true ∧ GS x
theorem W.nm {x : Str} (h : W x) : Nm x := by
  obtain ⟨h1, h2, h3⟩ := h
  refine ⟨?_, ?_, by omega⟩
  · have ha : ∀ c ∈ p16.cps.toList, inLV (.str (oneS c)) = true := by decide +kernel
    simp only [nmS, Bool.and_eq_true, decide_eq_true_eq]
    refine ⟨by omega, by omega, ?_⟩
    rw [List.all_eq_true]
    intro s hs
    unfold Sh.signs at hs
    obtain ⟨c, hc, rfl⟩ := List.mem_map.mp hs
    exact ha c (h1 c hc)
  · have ha : ∀ c ∈ p16.cps.toList, c < 0x110000 := by decide +kernel
    show x.cps.all (· < 0x110000) = true
    rw [← Array.all_toList, List.all_eq_true]
    intro c hc
    exact decide_eq_true (ha c (h1 c hc))
theorem p16_at {i : Nat} (h : i < 16) : p16.cps.toList[i]? = some (97 + i) := by
  have : ∀ i, i < 16 → p16.cps.toList[i]? = some (97 + i) := by decide +kernel
  exact this i h
theorem p16_mem {c : Nat} : c ∈ p16.cps.toList ↔ 97 ≤ c ∧ c < 113 := by
  have e : p16.cps.toList = (List.range 16).map (97 + ·) := by decide +kernel
  rw [e, List.mem_map]
  constructor
  · rintro ⟨a, h, rfl⟩
    have := List.mem_range.mp h
    omega
  · intro h
    exact ⟨c - 97, List.mem_range.mpr (by omega), by omega⟩
theorem p16_ix {c : Nat} (h : c ∈ p16.cps.toList) : Builtin.Str.occurrences p16 (oneS c) 0 p16.length 1 = [c - 97] := by
  have : ∀ c ∈ p16.cps.toList, Builtin.Str.occurrences p16 (oneS c) 0 p16.length 1 = [c - 97] := by decide +kernel
  exact this c h
/-- the four words made of one -/
def four (cs : List Nat) (a o : Nat) : List Str := [⟨cs.toArray⟩, ⟨(cs.take a ++ o :: cs.drop (a + 1)).toArray⟩, ⟨(cs ++ [o]).toArray⟩, ⟨(cs.take (cs.length - 1)).toArray⟩]
theorem four_w {cs : List Nat} {a o : Nat} (hc : ∀ c ∈ cs, c ∈ p16.cps.toList) (ho : o ∈ p16.cps.toList) (h2 : 2 ≤ cs.length) (h7 : cs.length ≤ 7) (ha : a < cs.length) : ∀ x ∈ four cs a o, W x := by
  have len : ∀ l : List Nat, (⟨l.toArray⟩ : Str).length = l.length := fun l => by simp [Str.length]
  refine all_cons ⟨?_, ?_, ?_⟩ (all_cons ⟨?_, ?_, ?_⟩ (all_cons ⟨?_, ?_, ?_⟩ (all_cons ⟨?_, ?_, ?_⟩ all_nil)))
  · exact hc
  · rw [len]; omega
  · rw [len]; omega
  · exact all_app (fun c h => hc c (List.mem_of_mem_take h)) (all_cons ho fun c h => hc c (List.mem_of_mem_drop h))
  · rw [len]; simp; omega
  · rw [len]; simp; omega
  · exact all_app hc (all_cons ho all_nil)
  · rw [len]; simp
  · rw [len]; simp; omega
  · exact fun c h => hc c (List.mem_of_mem_take h)
  · rw [len]; simp; omega
  · rw [len]; simp; omega
theorem four_nd {cs : List Nat} {a o : Nat} (h2 : 2 ≤ cs.length) (ha : a < cs.length) (hne : cs[a]? ≠ some o) : (four cs a o).Nodup := by
  have len : ∀ l m : List Nat, l.length ≠ m.length → (⟨l.toArray⟩ : Str) ≠ ⟨m.toArray⟩ := fun l m h e => by
    have : l.toArray = m.toArray := congrArg Str.cps e
    exact h (congrArg (fun z : Array Nat => z.toList.length) this)
  have l1 : (cs.take a ++ o :: cs.drop (a + 1)).length = cs.length := by simp; omega
  have l3 : (cs.take (cs.length - 1)).length = cs.length - 1 := by simp
  have l2 : (cs ++ [o]).length = cs.length + 1 := by simp
  have d01 : (⟨cs.toArray⟩ : Str) ≠ ⟨(cs.take a ++ o :: cs.drop (a + 1)).toArray⟩ := fun e => by
    have : cs.toArray = (cs.take a ++ o :: cs.drop (a + 1)).toArray := congrArg Str.cps e
    have h : cs = cs.take a ++ o :: cs.drop (a + 1) := congrArg Array.toList this
    apply hne
    have hl : (cs.take a).length = a := by simp; omega
    rw [h, List.getElem?_append_right (by omega), hl, Nat.sub_self]
    rfl
  unfold four
  refine List.nodup_cons.mpr ⟨?_, List.nodup_cons.mpr ⟨?_, List.nodup_cons.mpr ⟨?_, List.nodup_cons.mpr ⟨by simp, List.nodup_nil⟩⟩⟩⟩
  · intro h
    rcases List.mem_cons.mp h with h | h
    · exact d01 h
    · rcases List.mem_cons.mp h with h | h
      · exact len _ _ (by omega) h
      · exact len _ _ (by omega) (List.mem_singleton.mp h)
  · intro h
    rcases List.mem_cons.mp h with h | h
    · exact len _ _ (by omega) h
    · exact len _ _ (by omega) (List.mem_singleton.mp h)
  · intro h
    exact len _ _ (by omega) (List.mem_singleton.mp h)
/-- m texts of ws, taken in steps of d from s on, about -/
def turn (ws : List Str) (s d m : Nat) : List Str := (List.range m).map fun i => ws.getD ((s + d * i) % ws.length) ⟨#[]⟩
theorem turn_mem {ws : List Str} {s d m : Nat} (h : 0 < ws.length) : ∀ x ∈ turn ws s d m, x ∈ ws := by
  intro x hx
  obtain ⟨i, _, rfl⟩ := List.mem_map.mp hx
  have hl : (s + d * i) % ws.length < ws.length := Nat.mod_lt _ h
  rw [List.getD_eq_getElem?_getD, List.getElem?_eq_getElem hl]
  exact List.getElem_mem hl
theorem turn_nd {ws : List Str} {s d m : Nat} (hn : ws.Nodup) (h : 0 < ws.length) (hinj : ∀ i j, i < j → j < m → (s + d * i) % ws.length ≠ (s + d * j) % ws.length) : (turn ws s d m).Nodup := by
  unfold turn List.Nodup
  rw [List.pairwise_map, List.pairwise_iff_getElem]
  intro i j hi hj hij
  simp only [List.length_range] at hi hj
  simp only [List.getElem_range]
  have h1 : (s + d * i) % ws.length < ws.length := Nat.mod_lt _ h
  have h2 : (s + d * j) % ws.length < ws.length := Nat.mod_lt _ h
  rw [List.getD_eq_getElem?_getD, List.getElem?_eq_getElem h1, List.getD_eq_getElem?_getD, List.getElem?_eq_getElem h2]
  show ws[(s + d * i) % ws.length] ≠ ws[(s + d * j) % ws.length]
  intro e
  have hp := List.pairwise_iff_getElem.mp hn
  rcases Nat.lt_trichotomy ((s + d * i) % ws.length) ((s + d * j) % ws.length) with q | q | q
  · exact hp _ _ h1 h2 q e
  · exact hinj i j hij hj q
  · exact hp _ _ h2 h1 q e.symm
theorem cut_a {cs : List Nat} {a : Nat} (h : a < cs.length) : cutS ⟨cs.toArray⟩ none (some (a : Int)) = ⟨(cs.take a).toArray⟩ := by
  have hl : (⟨cs.toArray⟩ : Str).length = cs.length := by simp [Str.length]
  unfold cutS
  rw [hl, HT.sIx_none, HT.sIx_nat, Nat.min_eq_left (by omega), Nat.sub_zero]
  rfl
theorem cut_b {cs : List Nat} {a : Nat} (h : a < cs.length) : cutS ⟨cs.toArray⟩ (some ((a : Int) + 1)) none = ⟨(cs.drop (a + 1)).toArray⟩ := by
  have hl : (⟨cs.toArray⟩ : Str).length = cs.length := by simp [Str.length]
  have e : some ((a : Int) + 1) = some ((a + 1 : Nat) : Int) := rfl
  unfold cutS
  rw [hl, e, HT.sIx_none, HT.sIx_nat, Nat.min_eq_left (by omega)]
  have : List.take (cs.length - (a + 1)) (List.drop (a + 1) cs) = List.drop (a + 1) cs := List.take_of_length_le (by rw [List.length_drop]; exact Nat.le_refl _)
  exact congrArg (fun l : List Nat => (⟨l.toArray⟩ : Str)) this
theorem cut_c {cs : List Nat} : cutS ⟨cs.toArray⟩ none (some (-1)) = ⟨(cs.take (cs.length - 1)).toArray⟩ := by
  have hl : (⟨cs.toArray⟩ : Str).length = cs.length := by simp [Str.length]
  have e : HT.sIx cs.length cs.length (some (-1)) = cs.length - 1 := by
    unfold HT.sIx
    simp only
    rw [if_pos (show (-1 : Int) < 0 by decide)]
    omega
  unfold cutS
  rw [hl, HT.sIx_none, e, Nat.sub_zero]
  rfl
theorem str_app (l m : List Nat) : (⟨l.toArray⟩ : Str) ++ (⟨m.toArray⟩ : Str) = ⟨(l ++ m).toArray⟩ := by
  apply str_ext
  rw [app_cps]
/-- [ws[(s + d * i) % n] for i in range(m)], as told -/
theorem lc_turn {i n m : Nat} {fe : Fe} {ρ : Sh.Env} {Q : Mem → Prop} {M : Mem} {ws : List Str} {s d : Nat} (hn : m ≤ n) (hm : m ≤ 1000)
    (he : ∀ z : Nat, z < m → ∀ acc, H (fe (ρ.set i (some (.int z))) (M ++ [.lst acc])) fun y M' => y = .str (ws.getD ((s + d * z) % ws.length) ⟨#[]⟩) ∧ M' = M ++ [.lst acc])
    (q : Q (M ++ [.lst ((turn ws s d m).map .str)])) : LC (fun _ => some (rng 0 m)) (gN i) tYs fe M.length ρ n 0 (M ++ [.lst []]) Q := by
  have hl : (rng 0 m).length = m := by simp [rng]
  refine lc_map (h := fun v => match v with
    | .int z => .str (ws.getD ((s + d * z.toNat) % ws.length) ⟨#[]⟩)
    | _ => .non) (rng 0 m) (by rw [hl]; exact hn) (by rw [hl]; exact le_lim hm) (fun _ => rfl) (fun x hx acc => ?_) ?_
  · unfold rng at hx
    obtain ⟨z, hz, rfl⟩ := List.mem_map.mp hx
    have h := he z (List.mem_range.mp hz) acc
    rw [Int.zero_add]
    exact H.eq h
  · have e : (rng 0 m).map (fun v => match v with
        | .int z => Vl.str (ws.getD ((s + d * z.toNat) % ws.length) ⟨#[]⟩)
        | _ => Vl.non) = (turn ws s d m).map Vl.str := by
      unfold rng turn
      rw [List.map_map, List.map_map]
      refine List.map_congr_left fun z _ => ?_
      simp
    rw [e]
    exact q
theorem words_ok {k : Nat} {M : Mem} {m : Int} {Q : Vl → Mem → Prop} (hk : Held k M) (h0 : 0 ≤ m) (h4 : m ≤ 4)
    (q : ∀ (ks : List Str) (j : Nat) (M' : Mem), ks.length = m.toNat → (∀ x ∈ ks, Nm x) → ks.Nodup → Gr k M M' → M.length ≤ j → M'[j]? = some (.lst (ks.map .str)) → Q (.ref j) M') : H (m_law_words [.ref k, .int m] M) Q := by
  unfold m_law_words
  simp only [w_var, w_c, w_2, w_3, w_aNil, w_aCons, w_A, w_and, w_or, w_if, w_neg, w_isi, w_sl, w_oNone, w_oSome, w_app, w_revT, w_lenSet, w_tV, w_tAn, w_tO, w_tN, w_tYs, w_sNil, w_sCons, w_then_nx, w_then_rt, w_ret, w_ex, w_sIf, w_asg, w_gN, w_gsNil, w_gsCons, w_gT, w_run, w_out_rt, w_out_nx, w_mkT, w_mkL, w_v1, h_some, List.map_cons, List.map_nil, List.length_cons, List.length_nil, List.cons_append, List.nil_append, List.replicate, List.set_cons_zero, List.set_cons_succ, List.getElem?_cons_zero, List.getElem?_cons_succ, Nat.reduceAdd, Nat.reduceSub, Nat.reduceLeDiff, true_and, and_true, Vl.int.injEq, Vl.bl.injEq, exists_eq_left', w_lc, w_iR1, wipeE]
  have hlt := hk.lt
  have hp16 : (Str.ofString "abcdefghijklmnop").length = 16 := by decide +kernel
  have hp16' : (Str.ofString "abcdefghijklmnop").cps.toList.length = 16 := by decide +kernel
  refine take_ok hk (by decide) (by decide) fun n M1 n0 n1 g1 _ => ?_
  rw [w_addI]
  refine ⟨_, rfl, ⟨by omega, by omega⟩, ?_⟩
  refine lc_draw p16.cps.toList (2 + n).toNat g1.held (Nat.le_refl _) (by omega) ?_ ?_
  · intro x M' g
    simp only [w_var, w_c, w_2, w_3, w_aNil, w_aCons, w_A, w_and, w_or, w_if, w_neg, w_isi, w_sl, w_oNone, w_oSome, w_app, w_revT, w_lenSet, w_tV, w_tAn, w_tO, w_tN, w_tYs, w_sNil, w_sCons, w_then_nx, w_then_rt, w_ret, w_ex, w_sIf, w_asg, w_gN, w_gsNil, w_gsCons, w_gT, w_run, w_out_rt, w_out_nx, w_mkT, w_mkL, w_v1, h_some, List.map_cons, List.map_nil, List.length_cons, List.length_nil, List.cons_append, List.nil_append, List.replicate, List.set_cons_zero, List.set_cons_succ, List.getElem?_cons_zero, List.getElem?_cons_succ, Nat.reduceAdd, Nat.reduceSub, Nat.reduceLeDiff, true_and, and_true, Vl.int.injEq, Vl.bl.injEq, exists_eq_left']
    refine take_ok g.held (by decide) (by decide) fun c M3 c0 c1 g4 _ => ?_
    exact ix_sign (by omega) c0 (by omega) fun z hz => ⟨⟨z, hz, rfl⟩, g4⟩
  intro cs M2 hl hcs ecs g2
  refine join_ok ecs (by omega) ?_
  have hwl : (⟨cs.toArray⟩ : Str).length = cs.length := by simp [Str.length]
  rw [w_lenS (by rw [hwl]; exact le_lim (by omega)), hwl]
  refine take_ok g2.held (by omega) (by omega) fun a M3 a0 a1 g3 _ => ?_
  obtain ⟨an, rfl⟩ := Int.eq_ofNat_of_zero_le a0
  have ha : an < cs.length := by omega
  have ea : atI (⟨cs.toArray⟩ : Str).cps.toList (an : Int) = some cs[an] := by
    rw [atI_of a0 (by exact a1), Int.toNat_natCast]
    exact List.getElem?_eq_getElem ha
  rw [ix_str (by rw [hwl]; exact le_lim (by omega)) ea]
  have hca := hcs _ (List.getElem_mem ha)
  have hca' := p16_mem.mp hca
  have ei : ∀ M : Mem, vSIndex (.str p16) (.str (oneS cs[an])) M = some (.int ((cs[an] - 97 : Nat) : Int), M) := fun M => by
    simp only [vSIndex]
    rw [p16_ix hca]
  rw [ei]
  simp only [w_var, w_c, w_2, w_3, w_aNil, w_aCons, w_A, w_and, w_or, w_if, w_neg, w_isi, w_sl, w_oNone, w_oSome, w_app, w_revT, w_lenSet, w_tV, w_tAn, w_tO, w_tN, w_tYs, w_sNil, w_sCons, w_then_nx, w_then_rt, w_ret, w_ex, w_sIf, w_asg, w_gN, w_gsNil, w_gsCons, w_gT, w_run, w_out_rt, w_out_nx, w_mkT, w_mkL, w_v1, h_some, List.map_cons, List.map_nil, List.length_cons, List.length_nil, List.cons_append, List.nil_append, List.replicate, List.set_cons_zero, List.set_cons_succ, List.getElem?_cons_zero, List.getElem?_cons_succ, Nat.reduceAdd, Nat.reduceSub, Nat.reduceLeDiff, true_and, and_true, Vl.int.injEq, Vl.bl.injEq, exists_eq_left', w_addI]
  refine take_ok g3.held (by decide) (by decide) fun t M4 t0 t1 g4 _ => ?_
  rw [w_addI, w_mod (by decide)]
  have hix : (((cs[an] - 97 : Nat) : Int) + 1 + t) % 16 = (((cs[an] - 97 + 1 + t.toNat) % 16 : Nat) : Int) := by omega
  have hi16 : (cs[an] - 97 + 1 + t.toNat) % 16 < 16 := Nat.mod_lt _ (by decide)
  have eo : atI p16.cps.toList (((cs[an] - 97 + 1 + t.toNat) % 16 : Nat) : Int) = some (97 + (cs[an] - 97 + 1 + t.toNat) % 16) := by
    rw [atI_of (by omega) (by rw [show p16.cps.toList.length = 16 from hp16']; omega), Int.toNat_natCast]
    exact p16_at hi16
  rw [hix, ix_str (by rw [hp16]; decide) eo]
  have ho : (97 + (cs[an] - 97 + 1 + t.toNat) % 16) ∈ p16.cps.toList := p16_mem.mpr (by omega)
  have hne : cs[an]? ≠ some (97 + (cs[an] - 97 + 1 + t.toNat) % 16) := by
    rw [List.getElem?_eq_getElem ha]
    intro e
    have := Option.some.inj e
    omega
  generalize 97 + (cs[an] - 97 + 1 + t.toNat) % 16 = o at ho hne ⊢
  have hlw : (⟨cs.toArray⟩ : Str).length ≤ lim := by rw [hwl]; exact le_lim (by omega)
  have len : ∀ l : List Nat, (⟨l.toArray⟩ : Str).length = l.length := fun l => by simp [Str.length]
  rw [w_slS hlw, cut_a ha]
  simp only [w_slS hlw, cut_b ha, cut_c, w_addS]
  have e1 : (⟨(cs.take an).toArray⟩ : Str) ++ (⟨#[o]⟩ : Str) = ⟨(cs.take an ++ [o]).toArray⟩ := str_app _ [o]
  have e2 : (⟨(cs.take an ++ [o]).toArray⟩ : Str) ++ (⟨(cs.drop (an + 1)).toArray⟩ : Str) = ⟨(cs.take an ++ o :: cs.drop (an + 1)).toArray⟩ := by
    rw [str_app, List.append_assoc]
    rfl
  have e3 : (⟨cs.toArray⟩ : Str) ++ (⟨#[o]⟩ : Str) = ⟨(cs ++ [o]).toArray⟩ := str_app _ [o]
  have l1 : (⟨#[o]⟩ : Str).length = 1 := rfl
  have hlim : lim = 100000 := rfl
  rw [e1, e2, e3]
  simp only [len, l1, List.length_append, List.length_take, List.length_drop, List.length_cons, List.length_nil]
  refine ⟨by omega, by omega, by omega, ?_⟩
  refine take_ok g4.held.app (by decide) (by decide) fun s M5 s0 s1 g5 _ => ?_
  refine ⟨⟨by omega, by omega⟩, ?_⟩
  have hw := four_w (o := o) hcs ho (by omega) (by omega) ha
  have hnd := four_nd (o := o) (by omega) ha hne
  have gg := g1.trans (g2.trans (g3.trans g4))
  have ef : M5[M4.length]? = some (.lst ((four cs an o).map .str)) := g5.at (by have := gg.held.lt; omega) (app_at _ [] _)
  have hlt4 : M4.length < M5.length := (List.getElem?_eq_some_iff.mp ef).1
  have f4 : (four cs an o).length = 4 := rfl
  have hgr := gg.trans (gg.held.gr.trans g5)
  generalize four cs an o = ws at hw hnd ef f4
  refine lc_turn (ws := ws) (s := s.toNat) (d := 1) (Nat.le_refl _) (by omega) (fun z hz acc => ?_) ?_
  · simp only [w_var, w_c, w_2, w_3, w_aNil, w_aCons, w_A, w_and, w_or, w_if, w_neg, w_isi, w_sl, w_oNone, w_oSome, w_app, w_revT, w_lenSet, w_tV, w_tAn, w_tO, w_tN, w_tYs, w_sNil, w_sCons, w_then_nx, w_then_rt, w_ret, w_ex, w_sIf, w_asg, w_gN, w_gsNil, w_gsCons, w_gT, w_run, w_out_rt, w_out_nx, w_mkT, w_mkL, w_v1, h_some, List.map_cons, List.map_nil, List.length_cons, List.length_nil, List.cons_append, List.nil_append, List.replicate, List.set_cons_zero, List.set_cons_succ, List.getElem?_cons_zero, List.getElem?_cons_succ, Nat.reduceAdd, Nat.reduceSub, Nat.reduceLeDiff, true_and, and_true, Vl.int.injEq, Vl.bl.injEq, exists_eq_left', w_addI]
    rw [w_mod (by decide)]
    have hzi : (s + (z : Int)) % 4 = (((s.toNat + z) % 4 : Nat) : Int) := by omega
    have hz4 : (s.toNat + z) % 4 < 4 := Nat.mod_lt _ (by decide)
    rw [hzi, f4, Nat.one_mul]
    have ez : atI (ws.map Vl.str) (((s.toNat + z) % 4 : Nat) : Int) = some (.str (ws.getD ((s.toNat + z) % 4) ⟨#[]⟩)) := by
      rw [atI_of (by omega) (by rw [List.length_map]; omega), Int.toNat_natCast, List.getElem?_map, List.getElem?_eq_getElem (by omega), List.getD_eq_getElem?_getD, List.getElem?_eq_getElem (by omega)]
      rfl
    rw [ix_ref (by rw [List.getElem?_append_left hlt4]; exact ef) ez]
    exact ⟨rfl, rfl⟩
  · refine q (turn ws s.toNat 1 m.toNat) M5.length _ (by simp [turn]) (fun x hx => (hw x (turn_mem (by omega) x hx)).nm) (turn_nd hnd (by omega) fun i j hij hj => ?_) (hgr.app _) hgr.len (app_at _ [] _)
    rw [f4]
    omega
end K01

set_option Elab.async false
set_option linter.all false
set_option maxRecDepth 100000
set_option maxHeartbeats 4000000
namespace K01
open PySem PySem.Spec PyProof.Rows L2 NdefX GenE Sh
def SpecOk (p : Sp2) : Prop := Nm p.1 ∧ (p.2 = Str.ofString "+" ∨ p.2 = Str.ofString "-")
def RowOk (r : Row) : Prop := Nm r.1 ∧ 1 ≤ r.2.length ∧ r.2.length ≤ 4 ∧ ∀ p ∈ r.2, SpecOk p
theorem side_gs {x : Str} (h : x = Str.ofString "+" ∨ x = Str.ofString "-") : GS x := by
  rcases h with rfl | rfl <;> exact ⟨by decide +kernel, by decide +kernel⟩
theorem SpecOk.gs {p : Sp2} (h : SpecOk p) : GS p.1 ∧ GS p.2 := ⟨h.1.2, side_gs h.2⟩
theorem RowOk.g {r : Row} (h : RowOk r) : GRow r := ⟨h.1.2, fun p hp => (h.2.2.2 p hp).gs, h.2.1, h.2.2.1⟩
def specD (p : Sp2) : PyData := .tuple [.str p.1, .str p.2]
def rowD (r : Row) : PyData := .tuple [.str r.1, .tuple (r.2.map specD)]
theorem mapO_map {α β γ : Type} {g : β → Option γ} {f : α → β} {h : α → γ} : ∀ {xs : List α}, (∀ x ∈ xs, g (f x) = some (h x)) → mapO g (xs.map f) = some (xs.map h)
  | [], _ => rfl
  | x :: xs, e => by simp only [List.map_cons, mapO, e x (.head _), mapO_map (xs := xs) fun y hy => e y (.tail _ hy)]
theorem toD_spec {M : Mem} {n : Nat} {p : Sp2} (h1 : GS p.1) (h2 : GS p.2) : toD (n + 2) M (specV p) = some (specD p) := by
  simp only [specV, toD, mapO, h1.1, h2.1, if_true, Option.map_some, specD]
theorem toD_row {M : Mem} {n : Nat} {r : Row} (h : GRow r) : toD (n + 4) M (rowV r) = some (rowD r) := by
  have e : mapO (toD (n + 2) M) (r.2.map specV) = some (r.2.map specD) := mapO_map fun p hp => toD_spec (h.2.1 p hp).1 (h.2.1 p hp).2
  simp only [rowV, portsV, toD, mapO, h.1.1, if_true, e, Option.map_some, rowD]
theorem toD_rows {M : Mem} {rs : List Row} (h : ∀ r ∈ rs, GRow r) : mapO (toD 19 M) (rs.map rowV) = some (rs.map rowD) := mapO_map fun r hr => toD_row (n := 15) (h r hr)
theorem toD_rows' {M : Mem} {rs : List Row} (h : ∀ r ∈ rs, GRow r) : mapO (toD 20 M) (rs.map rowV) = some (rs.map rowD) := mapO_map fun r hr => toD_row (n := 16) (h r hr)
theorem alike_specs : ∀ ps qs : List Sp2, PySem.W.alikeAll (ps.map specD) (qs.map specD) = true
  | [], _ => by simp [PySem.W.alikeAll]
  | _ :: _, [] => by simp [PySem.W.alikeAll]
  | p :: ps, q :: qs => by simp [PySem.W.alikeAll, alike_specs ps qs, specD, PySem.W.alike]
theorem alike_rows (rs : List Row) : alikeB (rs.map rowD) = true := by
  unfold alikeB
  rw [List.all_eq_true]
  intro d hd
  rw [List.all_eq_true]
  intro e he
  obtain ⟨a, _, rfl⟩ := List.mem_map.mp hd
  obtain ⟨b, _, rfl⟩ := List.mem_map.mp he
  simp [rowD, PySem.W.alike, PySem.W.alikeAll, alike_specs]
theorem tup_rows (rs : List Row) : ((rs.map rowD).all isTupB || (rs.map rowD).all isFlatB) = true := by
  rw [Bool.or_eq_true]
  left
  rw [List.all_eq_true]
  intro d hd
  obtain ⟨a, _, rfl⟩ := List.mem_map.mp hd
  rfl
abbrev rLe : Row → Row → Bool := PySem.W.dataLe false rowD
theorem srt_rows (rs : List Row) : srt (rs.map rowV) (rs.map rowD) = (rs.mergeSort rLe).map rowV := by
  unfold srt
  have e : (rs.map rowV).zip (rs.map rowD) = rs.map fun r => (rowV r, rowD r) := by
    rw [List.zip_map']
  rw [e, ← PySem.W.sort_maps (fun r => (rowV r, rowD r)) (r := rLe) (l := rs) (fun a _ b _ => rfl)]
  rw [List.map_map]
  rfl
theorem row_le {a b : Row} (h : rLe a b = true) (hne : a.1 ≠ b.1) : SLt a.1 b.1 := by
  have h' : (!PySem.W.dataLt (rowD b) (rowD a)) = true := h
  rw [Bool.not_eq_true'] at h'
  unfold rowD at h'
  rw [PySem.W.dataLt_pair rfl (by simp [PySem.W.alike, alike_specs])] at h'
  have hn : PyData.eqv (.str b.1) (.str a.1) = false := by
    simp only [PyData.eqv]
    rw [beq_eq_false_iff_ne]
    exact Ne.symm hne
  rw [hn, if_neg Bool.false_ne_true, PySem.W.dataLt_str, decide_eq_false_iff_not] at h'
  rcases Decidable.em (a.1.cps.toList < b.1.cps.toList) with q | q
  · exact q
  · exact absurd (str_ext (List.le_antisymm (List.not_lt.mp h') (List.not_lt.mp q))) hne
theorem rows_sorted {rs : List Row} (hn : (rs.map (·.1)).Nodup) : ((rs.mergeSort rLe).map (·.1)).Pairwise SLt := by
  have hp := List.mergeSort_perm rs rLe
  have hn' : ((rs.mergeSort rLe).map (·.1)).Nodup := (hp.map (·.1)).nodup_iff.mpr hn
  have hs : (rs.mergeSort rLe).Pairwise fun a b => rLe a b = true := PySem.W.sort_pairwise (PySem.W.sortLe_total _ _ _) rs
  rw [List.Nodup, List.pairwise_map] at hn'
  rw [List.pairwise_map]
  exact (hs.and hn').imp fun h => row_le h.1 h.2
def pool : List Str := [Str.ofString "a", Str.ofString "add", Str.ofString "adder", Str.ofString "cut", Str.ofString "ring", Str.ofString "outer", Str.ofString "rule", Str.ofString "abcdefgh"]
theorem pool_nd : pool.Nodup := by decide +kernel
theorem pool_nm : ∀ x ∈ pool, Nm x := by
  have h : ∀ x ∈ pool, nmS x = true ∧ PyData.strOk x = true ∧ x.length ≤ 1000 := by decide +kernel
  exact h
def stIn : Fs := sEx (eApp (eVar 7) (eA mkT (aCons (e2 vIx (eVar 4) (eA m_law_take (aCons (eVar 0) (aCons (eA (v1 vLen) (aCons (eVar 4) aNil)) aNil)))) (aCons (e2 vIx (eC (.str (Str.ofString "+-"))) (eA m_law_take (aCons (eVar 0) (aCons (eC (.int 2)) aNil)))) aNil))))
def stBody : Fs := sCons (sAsg (eA mkL aNil) (gN 7))
    (sCons (sFor (iRange1 (e2 vAdd (eC (.int 1)) (eA m_law_take (aCons (eVar 0) (aCons (eC (.int 4)) aNil))))) (gN 8) stIn)
    (sCons (sIf (tAn (tV (e2 vNe (eVar 5) (eA mkL aNil))) (tV (e2 vEq (eA m_law_take (aCons (eVar 0) (aCons (eC (.int 3)) aNil))) (eC (.int 0))))) (sAsg (e2 vIx (e2 vIx (eVar 5) (eC (.int 0))) (eC (.int 1))) (gN 7)) sNil)
    (sEx (eApp (eVar 5) (eA mkT (aCons (e2 vIx (eVar 3) (eVar 6)) (aCons (eA (v1 vTuple) (aCons (eVar 7) aNil)) aNil)))))))
def stRet : Fs := sRet (eA (v1 vTuple) (aCons (eA (v1 vSorted) (aCons (eVar 5) aNil)) aNil))
/-- the cells that the loop reads -/
structure Cl (k kj sj rj : Nat) (kinds sorts : List Str) (rows : List Row) (M0 M : Mem) : Prop where
  kd : M[kj]? = some (.lst (kinds.map .str))
  so : M[sj]? = some (.lst (sorts.map .str))
  ro : M[rj]? = some (.lst (rows.map rowV))
  gr : Gr k M0 M
  nk : kj ≠ k ∧ sj ≠ k ∧ rj ≠ k ∧ rj ≠ kj ∧ rj ≠ sj
  le : M0.length ≤ rj
section
variable {k kj sj rj : Nat} {kinds sorts : List Str} {rows : List Row} {M0 M M' : Mem}
theorem Cl.grow (c : Cl k kj sj rj kinds sorts rows M0 M) (g : Gr k M M') : Cl k kj sj rj kinds sorts rows M0 M' :=
  ⟨g.at c.nk.1 c.kd, g.at c.nk.2.1 c.so, g.at c.nk.2.2.1 c.ro, c.gr.trans g, c.nk, c.le⟩
theorem Cl.lt (c : Cl k kj sj rj kinds sorts rows M0 M) : kj < M.length ∧ sj < M.length ∧ rj < M.length ∧ k < M.length :=
  ⟨(List.getElem?_eq_some_iff.mp c.kd).1, (List.getElem?_eq_some_iff.mp c.so).1, (List.getElem?_eq_some_iff.mp c.ro).1, c.gr.held.lt⟩
theorem Cl.set (c : Cl k kj sj rj kinds sorts rows M0 M) {p : Nat} {o : Ob} (h : p ≠ kj ∧ p ≠ sj ∧ p ≠ rj ∧ p ≠ k) (hp : M0.length ≤ p) : Cl k kj sj rj kinds sorts rows M0 (M.set p o) :=
  ⟨by rw [List.getElem?_set_ne h.1]; exact c.kd, by rw [List.getElem?_set_ne h.2.1]; exact c.so, by rw [List.getElem?_set_ne h.2.2.1]; exact c.ro, c.gr.set hp h.2.2.2, c.nk, c.le⟩
theorem Cl.put (c : Cl k kj sj rj kinds sorts rows M0 M) (rows' : List Row) : Cl k kj sj rj kinds sorts rows' M0 (M.set rj (.lst (rows'.map rowV))) :=
  ⟨by rw [List.getElem?_set_ne c.nk.2.2.2.1]; exact c.kd, by rw [List.getElem?_set_ne c.nk.2.2.2.2]; exact c.so, List.getElem?_set_self c.lt.2.2.1, c.gr.set c.le c.nk.2.2.1, c.nk, c.le⟩
end
theorem app_at' {M : Mem} {j : Nat} {xs : List Vl} {y : Vl} {Q : Vl → Mem → Prop} (e : M[j]? = some (.lst xs)) (hl : xs.length < lim) : H (vApp (.ref j) y M) Q = Q .non (M.set j (.lst (xs ++ [y]))) := by
  simp only [vApp, e, hl, if_true, h_some]
theorem at_str {ks : List Str} {c : Nat} (h : c < ks.length) : atI (ks.map Vl.str) (c : Int) = some (.str ks[c]) := by
  rw [atI_of (by omega) (by rw [List.length_map]; omega), Int.toNat_natCast, List.getElem?_map, List.getElem?_eq_getElem h]
  rfl
theorem rows_loop {k kj sj rj n : Nat} {kinds sorts : List Str} {M0 M : Mem} {o1 o2 : Option Vl} {Q : Vl → Mem → Prop} (c0 : Cl k kj sj rj kinds sorts [] M0 M) (n1 : 1 ≤ n) (n4 : n ≤ 4) (lk : kinds.length = 4) (nk : kinds.Nodup) (mk : ∀ x ∈ kinds, Nm x) (ls : 1 ≤ sorts.length) (ls' : sorts.length ≤ 100) (ms : ∀ x ∈ sorts, Nm x)
    (q : ∀ (rs : List Row) (M' : Mem), Gr k M0 M' → 1 ≤ rs.length → rs.length ≤ 4 → (∀ r ∈ rs, RowOk r) → (rs.map (·.1)).Pairwise SLt → Q (stockV rs) M') :
    H3 (forL (fun _ => some (rng 0 n)) (gN 6) stBody n 0 [some (.ref k), o1, o2, some (.ref kj), some (.ref sj), some (.ref rj), none, none, none] M) (thenS stRet (outR Q)) := by
  have hln : (rng 0 n).length = n := by simp [rng]
  have hlim : lim = 100000 := rfl
  refine for_run (rng 0 n) (fun i ρ M' => ∃ rows o6 o7 o8, ρ = [some (.ref k), o1, o2, some (.ref kj), some (.ref sj), some (.ref rj), o6, o7, o8] ∧ rows.map (·.1) = kinds.take i ∧ (∀ r ∈ rows, RowOk r) ∧ Cl k kj sj rj kinds sorts rows M0 M') ⟨[], none, none, none, rfl, rfl, all_nil, c0⟩ (by rw [hln]; exact Nat.le_refl _) ?_ ?_
  · rintro i x ρ M1 ex ⟨rows, o6, o7, o8, rfl, hr1, hr2, c1⟩
    have hi : i < n := by have := (List.getElem?_eq_some_iff.mp ex).1; rwa [hln] at this
    have hx : x = .int (i : Int) := by
      unfold rng at ex
      rw [List.getElem?_map, List.getElem?_range hi] at ex
      have := Option.some.inj ex
      rw [← this]
      simp
    subst hx
    have hrl : rows.length = i := by
      have := congrArg List.length hr1
      rw [List.length_map, List.length_take] at this
      omega
    refine ⟨rfl, ?_⟩
    unfold stBody
    simp only [w_var, w_c, w_2, w_3, w_aNil, w_aCons, w_A, w_and, w_or, w_if, w_neg, w_isi, w_sl, w_oNone, w_oSome, w_app, w_revT, w_lenSet, w_tV, w_tAn, w_tO, w_tN, w_tYs, w_sNil, w_sCons, w_then_nx, w_then_rt, w_ret, w_ex, w_sIf, w_asg, w_gN, w_gsNil, w_gsCons, w_gT, w_run, w_out_rt, w_out_nx, w_mkT, w_mkL, w_v1, h_some, List.map_cons, List.map_nil, List.length_cons, List.length_nil, List.cons_append, List.nil_append, List.replicate, List.set_cons_zero, List.set_cons_succ, List.getElem?_cons_zero, List.getElem?_cons_succ, Nat.reduceAdd, Nat.reduceSub, Nat.reduceLeDiff, true_and, and_true, Vl.int.injEq, Vl.bl.injEq, exists_eq_left', w_for, w_iR1]
    have l1 := c1.lt
    have c2 := c1.grow (c1.gr.held.gr (N := [.lst []]))
    refine take_ok c2.gr.held (by decide) (by decide) fun m M2 m0 m1 g2 _ => ?_
    have c3 := c2.grow g2
    rw [w_addI]
    refine ⟨_, rfl, ⟨by omega, by omega⟩, ?_⟩
    have hpk : M1.length ≠ k := by omega
    have e3 := g2.at hpk (app_at M1 [] (.lst []))
    have hlp : (rng 0 (1 + m).toNat).length = (1 + m).toNat := by simp [rng]
    refine for_run (rng 0 (1 + m).toNat) (fun j ρ M' => ∃ ps o8, ρ = [some (.ref k), o1, o2, some (.ref kj), some (.ref sj), some (.ref rj), some (.int (i : Int)), some (.ref M1.length), o8] ∧ ps.length = j ∧ (∀ p ∈ ps, SpecOk p) ∧ M'[M1.length]? = some (.lst (ps.map specV)) ∧ Cl k kj sj rj kinds sorts rows M0 M') ⟨[], o8, rfl, rfl, all_nil, e3, c3⟩ (by rw [hlp]; exact Nat.le_refl _) ?_ ?_
    · rintro j y ρ M3 ey ⟨ps, o8, rfl, hp1, hp2, hp3, c4⟩
      refine ⟨rfl, ?_⟩
      have hj : j < (1 + m).toNat := by have := (List.getElem?_eq_some_iff.mp ey).1; rwa [hlp] at this
      unfold stIn
      simp only [w_var, w_c, w_2, w_3, w_aNil, w_aCons, w_A, w_and, w_or, w_if, w_neg, w_isi, w_sl, w_oNone, w_oSome, w_app, w_revT, w_lenSet, w_tV, w_tAn, w_tO, w_tN, w_tYs, w_sNil, w_sCons, w_then_nx, w_then_rt, w_ret, w_ex, w_sIf, w_asg, w_gN, w_gsNil, w_gsCons, w_gT, w_run, w_out_rt, w_out_nx, w_mkT, w_mkL, w_v1, h_some, List.map_cons, List.map_nil, List.length_cons, List.length_nil, List.cons_append, List.nil_append, List.replicate, List.set_cons_zero, List.set_cons_succ, List.getElem?_cons_zero, List.getElem?_cons_succ, Nat.reduceAdd, Nat.reduceSub, Nat.reduceLeDiff, true_and, and_true, Vl.int.injEq, Vl.bl.injEq, exists_eq_left']
      refine ⟨M1.length, _, rfl, seqAt_of hp3, ?_⟩
      rw [w_lenR (seqAt_of c4.so), List.length_map]
      refine take_ok c4.gr.held (by omega) (by omega) fun c M4 d0 d1 g4 _ => ?_
      obtain ⟨cn, rfl⟩ := Int.eq_ofNat_of_zero_le d0
      have hcn : cn < sorts.length := by omega
      have c5 := c4.grow g4
      rw [ix_ref c5.so (at_str hcn)]
      refine take_ok g4.held (by decide) (by decide) fun b M5 b0 b1 g5 _ => ?_
      have c6 := c5.grow g5
      have hpm : ∀ x ∈ (Str.ofString "+-").cps.toList, oneS x = Str.ofString "+" ∨ oneS x = Str.ofString "-" := by decide +kernel
      have hpl : (Str.ofString "+-").length = 2 := by decide +kernel
      refine ix_sign (by omega) b0 (by omega) fun sd hsd => ?_
      have e6 := g5.at hpk (g4.at hpk hp3)
      rw [app_at' e6 (by rw [List.length_map]; omega)]
      refine .inl ⟨ps ++ [(sorts[cn], oneS sd)], some y, rfl, by simp [hp1], all_app hp2 (all_cons ⟨ms _ (List.getElem_mem hcn), hpm sd hsd⟩ all_nil), ?_, ?_⟩
      · rw [List.getElem?_set_self (List.getElem?_eq_some_iff.mp e6).1, List.map_append]
        rfl
      · exact c6.set (by omega) (Nat.le_trans c1.gr.len (Nat.le_refl _))
    · rintro ρ M3 ⟨ps, o8, rfl, hp1, hp2, hp3, c4⟩
      rw [hlp] at hp1
      refine ⟨rfl, ?_⟩
      simp only [w_var, w_c, w_2, w_3, w_aNil, w_aCons, w_A, w_and, w_or, w_if, w_neg, w_isi, w_sl, w_oNone, w_oSome, w_app, w_revT, w_lenSet, w_tV, w_tAn, w_tO, w_tN, w_tYs, w_sNil, w_sCons, w_then_nx, w_then_rt, w_ret, w_ex, w_sIf, w_asg, w_gN, w_gsNil, w_gsCons, w_gT, w_run, w_out_rt, w_out_nx, w_mkT, w_mkL, w_v1, h_some, List.map_cons, List.map_nil, List.length_cons, List.length_nil, List.cons_append, List.nil_append, List.replicate, List.set_cons_zero, List.set_cons_succ, List.getElem?_cons_zero, List.getElem?_cons_succ, Nat.reduceAdd, Nat.reduceSub, Nat.reduceLeDiff, true_and, and_true, Vl.int.injEq, Vl.bl.injEq, exists_eq_left']
      have hik : i < kinds.length := by omega
      have fin2 : ∀ (v7 : Vl) (ps' : List Sp2) (M' : Mem), vTuple v7 M' = some (portsV ps', M') → (1 ≤ ps'.length ∧ ps'.length ≤ 4 ∧ ∀ p ∈ ps', SpecOk p) → Cl k kj sj rj kinds sorts rows M0 M' →
          ∃ k_1 xs, Vl.ref rj = Vl.ref k_1 ∧ seqAt M' k_1 = some xs ∧ H (vIx (.ref kj) (.int (i : Int)) M') fun v_1 M1 => H (vTuple v7 M1) fun v_2 M1 => H (vApp (.ref k_1) (.tup false [v_1, v_2]) M1) fun v_3 M1' =>
            (∃ rows o6 o7 o8_1, [some (Vl.ref k), o1, o2, some (Vl.ref kj), some (Vl.ref sj), some (Vl.ref rj), some (Vl.int (i : Int)), some v7, o8] = [some (Vl.ref k), o1, o2, some (Vl.ref kj), some (Vl.ref sj), some (Vl.ref rj), o6, o7, o8_1] ∧ List.map (fun x : Row => x.fst) rows = List.take (i + 1) kinds ∧ (∀ (r : Row), r ∈ rows → RowOk r) ∧ Cl k kj sj rj kinds sorts rows M0 M1') ∨ ∃ v, Out.nx = Out.rt v ∧ Q v M1' := by
        intro v7 ps' M' e7 hp' c7
        refine ⟨rj, _, rfl, seqAt_of c7.ro, ?_⟩
        rw [ix_ref c7.kd (at_str hik)]
        refine .of e7 ?_
        rw [app_at' c7.ro (by rw [List.length_map]; omega)]
        refine .inl ⟨rows ++ [(kinds[i], ps')], _, _, _, rfl, ?_, all_app hr2 (all_cons ⟨mk _ (List.getElem_mem hik), hp'⟩ all_nil), ?_⟩
        · rw [List.map_append, hr1, List.take_succ, List.getElem?_eq_getElem hik]
          rfl
        · have := c7.put (rows ++ [(kinds[i], ps')])
          rw [List.map_append] at this
          exact this
      have c5 := c4.grow (c4.gr.held.gr (N := [.lst []]))
      have hp5 : (M3 ++ [Ob.lst []])[M1.length]? = some (.lst (ps.map specV)) := (c4.gr.held.gr (N := [.lst []])).at hpk hp3
      have hps : 1 ≤ ps.length ∧ ps.length ≤ 4 ∧ ∀ p ∈ ps, SpecOk p := ⟨by omega, by omega, hp2⟩
      have eq5 : vNe (.ref rj) (.ref M3.length) (M3 ++ [Ob.lst []]) = some (.bl (!PyData.eqv (.list (rows.map rowD)) (.list [])), M3 ++ [Ob.lst []]) := by
        simp only [vNe, toD, seqAt_of c5.ro, seqAt_of (app_at M3 [] (.lst [])), toD_rows (fun r hr => (hr2 r hr).g), Option.map_some, mapO]
      refine .of eq5 ⟨_, rfl, ?_⟩
      cases hrw : rows with
      | nil =>
        simp only [List.map_nil, PyData.eqv, PyData.eqvAll, Bool.not_true, Bool.false_eq_true, if_false]
        exact fin2 _ ps _ (by simp only [vTuple, seqAt_of hp5, portsV]) hps c5
      | cons r0 rt =>
        simp only [List.map_cons, PyData.eqv, PyData.eqvAll, Bool.not_false, if_true]
        refine take_ok c5.gr.held (by decide) (by decide) fun c M6 d0 d1 g6 _ => ?_
        have c7 := c5.grow g6
        have eq6 : vEq (.int c) (.int 0) M6 = some (.bl (c == 0), M6) := by simp only [vEq, toD, PyData.eqv]
        refine .of eq6 ⟨_, rfl, ?_⟩
        cases c == 0 with
        | false =>
          simp only [Bool.false_eq_true, if_false]
          exact fin2 _ ps _ (by simp only [vTuple, seqAt_of (g6.at hpk hp5), portsV]) hps c7
        | true =>
          simp only [if_true]
          have hr0 := hr2 r0 (by rw [hrw]; exact .head _)
          rw [ix_ref c7.ro (by rw [hrw, List.map_cons, atI0])]
          unfold rowV
          rw [ix_tup atI1]
          exact fin2 (portsV r0.2) r0.2 _ rfl hr0.2 c7
  · rintro ρ M1 ⟨rows, o6, o7, o8, rfl, hr1, hr2, c1⟩
    rw [hln] at hr1
    have hrl : rows.length = n := by
      have := congrArg List.length hr1
      rw [List.length_map, List.length_take] at this
      omega
    refine ⟨rfl, ?_⟩
    unfold stRet
    simp only [w_var, w_c, w_2, w_3, w_aNil, w_aCons, w_A, w_and, w_or, w_if, w_neg, w_isi, w_sl, w_oNone, w_oSome, w_app, w_revT, w_lenSet, w_tV, w_tAn, w_tO, w_tN, w_tYs, w_sNil, w_sCons, w_then_nx, w_then_rt, w_ret, w_ex, w_sIf, w_asg, w_gN, w_gsNil, w_gsCons, w_gT, w_run, w_out_rt, w_out_nx, w_mkT, w_mkL, w_v1, h_some, List.map_cons, List.map_nil, List.length_cons, List.length_nil, List.cons_append, List.nil_append, List.replicate, List.set_cons_zero, List.set_cons_succ, List.getElem?_cons_zero, List.getElem?_cons_succ, Nat.reduceAdd, Nat.reduceSub, Nat.reduceLeDiff, true_and, and_true, Vl.int.injEq, Vl.bl.injEq, exists_eq_left']
    have es : vSorted (.ref rj) M1 = some (.ref M1.length, M1 ++ [.lst ((rows.mergeSort rLe).map rowV)]) := by
      simp only [vSorted, seqAt_of c1.ro, toD_rows' (fun r hr => (hr2 r hr).g), alike_rows, tup_rows, and_self, if_true, srt_rows]
    refine .of es ?_
    have et : vTuple (.ref M1.length) (M1 ++ [.lst ((rows.mergeSort rLe).map rowV)]) = some (stockV (rows.mergeSort rLe), M1 ++ [.lst ((rows.mergeSort rLe).map rowV)]) := by
      simp only [vTuple, seqAt_of (app_at M1 [] _), stockV]
    refine .of et ?_
    have hp := List.mergeSort_perm rows rLe
    refine q _ _ (c1.gr.app _) (by rw [hp.length_eq]; omega) (by rw [hp.length_eq]; omega) (fun r hr => hr2 r (hp.mem_iff.mp hr)) (rows_sorted ?_)
    rw [hr1]
    exact nk.sublist (List.take_sublist _ _)
theorem stock_ok {k : Nat} {M : Mem} {Q : Vl → Mem → Prop} (hk : Held k M)
    (q : ∀ (rs : List Row) (M' : Mem), Gr k M M' → 1 ≤ rs.length → rs.length ≤ 4 → (∀ r ∈ rs, RowOk r) → (rs.map (·.1)).Pairwise SLt → Q (stockV rs) M') : H (m_law_stock [.ref k] M) Q := by
  unfold m_law_stock
  simp only [w_var, w_c, w_2, w_3, w_aNil, w_aCons, w_A, w_and, w_or, w_if, w_neg, w_isi, w_sl, w_oNone, w_oSome, w_app, w_revT, w_lenSet, w_tV, w_tAn, w_tO, w_tN, w_tYs, w_sNil, w_sCons, w_then_nx, w_then_rt, w_ret, w_ex, w_sIf, w_asg, w_gN, w_gsNil, w_gsCons, w_gT, w_run, w_out_rt, w_out_nx, w_mkT, w_mkL, w_v1, h_some, List.map_cons, List.map_nil, List.length_cons, List.length_nil, List.cons_append, List.nil_append, List.replicate, List.set_cons_zero, List.set_cons_succ, List.getElem?_cons_zero, List.getElem?_cons_succ, Nat.reduceAdd, Nat.reduceSub, Nat.reduceLeDiff, true_and, and_true, Vl.int.injEq, Vl.bl.injEq, exists_eq_left', w_lc, w_iR1, wipeE, w_for]
  have hlt := hk.lt
  refine take_ok hk.app (by decide) (by decide) fun st M1 s0 s1 g1 _ => ?_
  have g01 := hk.gr.trans g1
  have ep : M1[M.length]? = some (.lst (pool.map .str)) := g1.at (by omega) (app_at _ [] _)
  have hlt1 : M.length < M1.length := (List.getElem?_eq_some_iff.mp ep).1
  refine ⟨⟨by omega, by omega⟩, ?_⟩
  refine lc_turn (ws := pool) (s := st.toNat) (d := 3) (Nat.le_refl _) (by decide) (fun z hz acc => ?_) ?_
  · simp only [w_var, w_c, w_2, w_3, w_aNil, w_aCons, w_A, w_and, w_or, w_if, w_neg, w_isi, w_sl, w_oNone, w_oSome, w_app, w_revT, w_lenSet, w_tV, w_tAn, w_tO, w_tN, w_tYs, w_sNil, w_sCons, w_then_nx, w_then_rt, w_ret, w_ex, w_sIf, w_asg, w_gN, w_gsNil, w_gsCons, w_gT, w_run, w_out_rt, w_out_nx, w_mkT, w_mkL, w_v1, h_some, List.map_cons, List.map_nil, List.length_cons, List.length_nil, List.cons_append, List.nil_append, List.replicate, List.set_cons_zero, List.set_cons_succ, List.getElem?_cons_zero, List.getElem?_cons_succ, Nat.reduceAdd, Nat.reduceSub, Nat.reduceLeDiff, true_and, and_true, Vl.int.injEq, Vl.bl.injEq, exists_eq_left']
    have hz : z < 4 := hz
    rw [w_mulI (.inl ⟨by omega, by omega⟩), w_addI, w_mod (by decide)]
    have f8 : pool.length = 8 := rfl
    have hzi : (st + 3 * (z : Int)) % 8 = (((st.toNat + 3 * z) % 8 : Nat) : Int) := by omega
    have hz4 : (st.toNat + 3 * z) % 8 < 8 := Nat.mod_lt _ (by decide)
    rw [hzi, f8]
    have ez : atI (pool.map Vl.str) (((st.toNat + 3 * z) % 8 : Nat) : Int) = some (.str (pool.getD ((st.toNat + 3 * z) % 8) ⟨#[]⟩)) := by
      rw [atI_of (by omega) (by rw [List.length_map]; omega), Int.toNat_natCast, List.getElem?_map, List.getElem?_eq_getElem (by omega), List.getD_eq_getElem?_getD, List.getElem?_eq_getElem (by omega)]
      rfl
    rw [ix_ref (by rw [List.getElem?_append_left hlt1]; exact ep) ez]
    exact ⟨rfl, rfl⟩
  have hk0 : ∀ x ∈ turn pool st.toNat 3 4, Nm x := fun x hx => pool_nm x (turn_mem (by decide) x hx)
  have hn0 : (turn pool st.toNat 3 4).Nodup := turn_nd pool_nd (by decide) fun i j hij hj => by
    rw [show pool.length = 8 from rfl]
    omega
  have hl0 : (turn pool st.toNat 3 4).length = 4 := by simp [turn]
  rw [show (Int.toNat 4) = 4 from rfl]
  have tail : ∀ (kinds : List Str) (kj : Nat) (M2 : Mem), Gr k M M2 → M.length ≤ kj → M2[kj]? = some (.lst (kinds.map .str)) → kinds.length = 4 → kinds.Nodup → (∀ x ∈ kinds, Nm x) →
      H (m_law_take [.ref k, .int 3] M2) fun b M2 => H (vAdd (.int 1) b M2) fun v_1 M1 => H (m_law_words [.ref k, v_1] M1) fun v_2 M1 => H (m_law_take [.ref k, .int 4] (M1 ++ [Ob.lst []])) fun b M2 => H (vAdd (.int 1) b M2) fun v_3 M1_3 => ∃ j, v_3 = .int j ∧ (-2 ^ 62 ≤ j ∧ j < 2 ^ 62) ∧
        H3 (forL (fun x => some (rng 0 j.toNat)) (gN 6) stBody j.toNat 0 [some (.ref k), some (.ref M.length), some (.int st), some (.ref kj), some v_2, some (.ref M1.length), none, none, none] M1_3) (thenS stRet (outR Q)) := by
    intro kinds kj M2 g2 hkj ek lk nk mk
    refine take_ok g2.held (by decide) (by decide) fun c M3 c0 c1 g3 _ => ?_
    rw [w_addI]
    refine words_ok g3.held (by omega) (by omega) fun sorts sj M4 ls ms ns g4 hsj es => ?_
    refine take_ok g4.held.app (by decide) (by decide) fun m M5 m0 m1 g5 _ => ?_
    rw [w_addI]
    refine ⟨_, rfl, ⟨by omega, by omega⟩, ?_⟩
    have g14 := g2.trans (g3.trans g4)
    have gA : Gr k M4 M5 := g4.held.gr.trans g5
    have hkjk : kj ≠ k := by omega
    have e4k := g4.at hkjk (g3.at hkjk ek)
    have h4k := (List.getElem?_eq_some_iff.mp e4k).1
    have h4s := (List.getElem?_eq_some_iff.mp es).1
    have := g2.len
    have := g3.len
    have hsjk : sj ≠ k := by omega
    have h4 := g14.held.lt
    exact rows_loop (M0 := M) ⟨gA.at hkjk e4k, gA.at hsjk es, g5.at (by omega) (app_at _ [] _), g14.trans gA, ⟨hkjk, hsjk, by omega, by omega, by omega⟩, g14.len⟩ (by omega) (by omega) lk nk mk (by omega) (by omega) ms q
  refine take_ok g01.held.app (by decide) (by decide) fun c M2 c0 c1 g2 _ => ?_
  have eq6 : vEq (.int c) (.int 0) M2 = some (.bl (c == 0), M2) := by simp only [vEq, toD, PyData.eqv]
  refine .of eq6 ⟨_, rfl, ?_⟩
  have g12 := g01.trans (g01.held.gr.trans g2)
  cases c == 0 with
  | false =>
    simp only [Bool.false_eq_true, if_false]
    exact tail _ M1.length M2 g12 g01.len (g2.at (by omega) (app_at _ [] _)) hl0 hn0 hk0
  | true =>
    simp only [if_true]
    refine words_ok g2.held (by decide) (by decide) fun kinds kj M3 lk mk nk g3 hkj ek => ?_
    exact tail kinds kj M3 (g12.trans g3) (Nat.le_trans g12.len hkj) ek lk nk mk
end K01

set_option Elab.async false
set_option linter.all false
set_option maxRecDepth 100000
set_option maxHeartbeats 4000000
namespace K01
open PySem PySem.Spec PyProof.Rows L2 NdefX GenE Sh
def dgBody : Fs := sCons (sAsg (e2 vMod (e2 vAdd (e2 vAdd (e2 vMul (eVar 4) (eVar 4)) (e2 vMul (eC (.int 48271)) (eVar 4))) (eVar 5)) (eC (.int 2147483629))) (gN 4))
    (sAsg (e2 vAdd (e2 vMul (eVar 3) (eC (.int 2147483587))) (e2 vMod (e2 vMul (eVar 4) (eC (.int 69621))) (eC (.int 2147483587)))) (gN 3))
theorem digits_ok {M : Mem} {ns : List Int} {i : Int} {Q : Vl → Mem → Prop} (e : seqAt M 0 = some (ns.map .int)) (h0 : 0 ≤ i)
    (q : ∀ d : Int, Q (.ref M.length) (M ++ [.lst [.int d]])) : H (m_law_digits [.ref 0, .int i] M) Q := by
  unfold m_law_digits
  simp only [w_var, w_c, w_2, w_3, w_aNil, w_aCons, w_A, w_and, w_or, w_if, w_neg, w_isi, w_sl, w_oNone, w_oSome, w_app, w_revT, w_lenSet, w_tV, w_tAn, w_tO, w_tN, w_tYs, w_sNil, w_sCons, w_then_nx, w_then_rt, w_ret, w_ex, w_sIf, w_asg, w_gN, w_gsNil, w_gsCons, w_gT, w_run, w_out_rt, w_out_nx, w_mkT, w_mkL, w_v1, h_some, List.map_cons, List.map_nil, List.length_cons, List.length_nil, List.cons_append, List.nil_append, List.replicate, List.set_cons_zero, List.set_cons_succ, List.getElem?_cons_zero, List.getElem?_cons_succ, Nat.reduceAdd, Nat.reduceSub, Nat.reduceLeDiff, true_and, and_true, Vl.int.injEq, Vl.bl.injEq, exists_eq_left', w_for, w_iR1, w_lenR e, w_ltI, List.length_map]
  have pow : ∀ M : Mem, vPow (.int 10) (.int 18) M = some (.int 1000000000000000000, M) := fun M => by
    have h : CPow 10 18 := ⟨by decide, by decide, by decide⟩
    simp only [vPow, Sh.vInt, h, if_true]
    rfl
  have rest : ∀ c : Int, H (vPow (.int 10) (.int 18) M) fun b M2 => H (vGe (.int c) b M2) fun v M1 => ∃ b, v = .bl b ∧
      if b = true then H (vPow (.int 10) (.int 18) M1) fun b M2 => H (vSub (.int c) b M2) fun v M1 => Q (.ref M1.length) (M1 ++ [.lst [v]])
      else H (vMul (.int c) (.int 48271) M1) fun a M1 => H (vMul (.int 7919) (.int i) M1) fun b M2 => H (vAdd a b M2) fun a M1 => H (vAdd a (.int 11) M1) fun a M1 => H (vMod a (.int 2147483647) M1) fun v_2 M1 => (-2 ^ 62 ≤ (12 : Int) ∧ (12 : Int) < 2 ^ 62) ∧
        H3 (forL (fun x => some (rng 0 (Int.toNat 12))) (gN 5) dgBody (Int.toNat 12) 0 [some (.ref 0), some (.int i), some (.int c), some (.int 0), some v_2, none] M1) (thenS (sRet (eA mkL (aCons (eVar 3) aNil))) (outR Q)) := by
    intro c
    refine .of (pow M) ?_
    rw [w_geI]
    refine ⟨_, rfl, ?_⟩
    split
    · refine .of (pow M) ?_
      rw [w_subI]
      exact q _
    · rw [w_mulI (.inr ⟨by decide, by decide⟩), w_mulI (.inl ⟨by decide, by decide⟩), w_addI, w_addI, w_mod (by decide)]
      refine ⟨⟨by decide, by decide⟩, ?_⟩
      have hl : (rng 0 (Int.toNat 12)).length = Int.toNat 12 := by simp [rng]
      refine for_run (rng 0 (Int.toNat 12)) (fun j ρ M' => M' = M ∧ ∃ (t n : Int) (o5 : Option Vl), ρ = [some (.ref 0), some (.int i), some (.int c), some (.int t), some (.int n), o5] ∧ 0 ≤ n ∧ n < 2147483647) ⟨rfl, _, _, _, rfl, Int.emod_nonneg _ (by decide), Int.emod_lt_of_pos _ (by decide)⟩ (by rw [hl]; exact Nat.le_refl _) ?_ ?_
      · rintro j x ρ M' ex ⟨rfl, t, n, o5, rfl, n0, n1⟩
        refine ⟨rfl, ?_⟩
        obtain ⟨z, rfl⟩ : ∃ z : Int, x = .int z := by
          have := List.mem_of_getElem? ex
          unfold rng at this
          obtain ⟨z, _, rfl⟩ := List.mem_map.mp this
          exact ⟨_, rfl⟩
        unfold dgBody
        simp only [w_var, w_c, w_2, w_3, w_aNil, w_aCons, w_A, w_and, w_or, w_if, w_neg, w_isi, w_sl, w_oNone, w_oSome, w_app, w_revT, w_lenSet, w_tV, w_tAn, w_tO, w_tN, w_tYs, w_sNil, w_sCons, w_then_nx, w_then_rt, w_ret, w_ex, w_sIf, w_asg, w_gN, w_gsNil, w_gsCons, w_gT, w_run, w_out_rt, w_out_nx, w_mkT, w_mkL, w_v1, h_some, List.map_cons, List.map_nil, List.length_cons, List.length_nil, List.cons_append, List.nil_append, List.replicate, List.set_cons_zero, List.set_cons_succ, List.getElem?_cons_zero, List.getElem?_cons_succ, Nat.reduceAdd, Nat.reduceSub, Nat.reduceLeDiff, true_and, and_true, Vl.int.injEq, Vl.bl.injEq, exists_eq_left']
        rw [w_mulI (.inl ⟨by omega, by omega⟩), w_mulI (.inl ⟨by decide, by decide⟩), w_addI, w_addI, w_mod (by decide), w_mulI (.inr ⟨by decide, by decide⟩), w_mulI (.inr ⟨by decide, by decide⟩), w_mod (by decide), w_addI]
        refine .inl ⟨rfl, _, _, _, rfl, Int.emod_nonneg _ (by decide), ?_⟩
        exact Int.lt_trans (Int.emod_lt_of_pos _ (by decide)) (by decide)
      · rintro ρ M' ⟨rfl, t, n, o5, rfl, n0, n1⟩
        refine ⟨rfl, ?_⟩
        simp only [w_var, w_c, w_2, w_3, w_aNil, w_aCons, w_A, w_and, w_or, w_if, w_neg, w_isi, w_sl, w_oNone, w_oSome, w_app, w_revT, w_lenSet, w_tV, w_tAn, w_tO, w_tN, w_tYs, w_sNil, w_sCons, w_then_nx, w_then_rt, w_ret, w_ex, w_sIf, w_asg, w_gN, w_gsNil, w_gsCons, w_gT, w_run, w_out_rt, w_out_nx, w_mkT, w_mkL, w_v1, h_some, List.map_cons, List.map_nil, List.length_cons, List.length_nil, List.cons_append, List.nil_append, List.replicate, List.set_cons_zero, List.set_cons_succ, List.getElem?_cons_zero, List.getElem?_cons_succ, Nat.reduceAdd, Nat.reduceSub, Nat.reduceLeDiff, true_and, and_true, Vl.int.injEq, Vl.bl.injEq, exists_eq_left']
        exact q t
  split
  · rename_i hlt
    have hlt := of_decide_eq_true hlt
    obtain ⟨x, hx, ex⟩ := atI_mem (xs := ns.map Vl.int) h0 (by rw [List.length_map]; exact hlt)
    obtain ⟨z, _, rfl⟩ := List.mem_map.mp hx
    rw [ix_seq e ex]
    exact rest z
  · exact rest 0
theorem told_eq {M : Mem} {a b : Bool} : m_law_told [.bl a, .bl b] M = some (.bl (a == b), M) := by
  apply H.eq
  unfold m_law_told
  simp only [w_var, w_c, w_2, w_3, w_aNil, w_aCons, w_A, w_and, w_or, w_if, w_neg, w_isi, w_sl, w_oNone, w_oSome, w_app, w_revT, w_lenSet, w_tV, w_tAn, w_tO, w_tN, w_tYs, w_sNil, w_sCons, w_then_nx, w_then_rt, w_ret, w_ex, w_sIf, w_asg, w_gN, w_gsNil, w_gsCons, w_gT, w_run, w_out_rt, w_out_nx, w_mkT, w_mkL, w_v1, h_some, List.map_cons, List.map_nil, List.length_cons, List.length_nil, List.cons_append, List.nil_append, List.replicate, List.set_cons_zero, List.set_cons_succ, List.getElem?_cons_zero, List.getElem?_cons_succ, Nat.reduceAdd, Nat.reduceSub, Nat.reduceLeDiff, true_and, and_true, Vl.int.injEq, Vl.bl.injEq, exists_eq_left', isi_bool, if_true]
  exact .of rfl ⟨rfl, rfl⟩
def mate (p : Sp2) : Sp2 := (p.1, if p.2 = Str.ofString "+" then Str.ofString "-" else Str.ofString "+")
theorem mate_eq {M : Mem} {p : Sp2} (h : SpecOk p) : m_mate_of [specV p] M = some (specV (mate p), M) := by
  apply H.eq
  unfold m_mate_of
  simp only [w_var, w_c, w_2, w_3, w_aNil, w_aCons, w_A, w_and, w_or, w_if, w_neg, w_isi, w_sl, w_oNone, w_oSome, w_app, w_revT, w_lenSet, w_tV, w_tAn, w_tO, w_tN, w_tYs, w_sNil, w_sCons, w_then_nx, w_then_rt, w_ret, w_ex, w_sIf, w_asg, w_gN, w_gsNil, w_gsCons, w_gT, w_run, w_out_rt, w_out_nx, w_mkT, w_mkL, w_v1, h_some, List.map_cons, List.map_nil, List.length_cons, List.length_nil, List.cons_append, List.nil_append, List.replicate, List.set_cons_zero, List.set_cons_succ, List.getElem?_cons_zero, List.getElem?_cons_succ, Nat.reduceAdd, Nat.reduceSub, Nat.reduceLeDiff, true_and, and_true, Vl.int.injEq, Vl.bl.injEq, exists_eq_left', specV]
  have hs : OkV 0 1 M (.str p.2) := side_gs h.2
  rw [eq_side hs (by decide) (by decide +kernel)]
  simp only [w_var, w_c, w_2, w_3, w_aNil, w_aCons, w_A, w_and, w_or, w_if, w_neg, w_isi, w_sl, w_oNone, w_oSome, w_app, w_revT, w_lenSet, w_tV, w_tAn, w_tO, w_tN, w_tYs, w_sNil, w_sCons, w_then_nx, w_then_rt, w_ret, w_ex, w_sIf, w_asg, w_gN, w_gsNil, w_gsCons, w_gT, w_run, w_out_rt, w_out_nx, w_mkT, w_mkL, w_v1, h_some, List.map_cons, List.map_nil, List.length_cons, List.length_nil, List.cons_append, List.nil_append, List.replicate, List.set_cons_zero, List.set_cons_succ, List.getElem?_cons_zero, List.getElem?_cons_succ, Nat.reduceAdd, Nat.reduceSub, Nat.reduceLeDiff, true_and, and_true, Vl.int.injEq, Vl.bl.injEq, exists_eq_left', isS]
  unfold mate
  by_cases hp : p.2 = Str.ofString "+"
  · have : (p.2 == Str.ofString "+") = true := by rw [hp]; exact beq_self_eq_true _
    simp only [this, if_true, w_var, w_c, w_2, w_3, w_aNil, w_aCons, w_A, w_and, w_or, w_if, w_neg, w_isi, w_sl, w_oNone, w_oSome, w_app, w_revT, w_lenSet, w_tV, w_tAn, w_tO, w_tN, w_tYs, w_sNil, w_sCons, w_then_nx, w_then_rt, w_ret, w_ex, w_sIf, w_asg, w_gN, w_gsNil, w_gsCons, w_gT, w_run, w_out_rt, w_out_nx, w_mkT, w_mkL, w_v1, h_some, List.map_cons, List.map_nil, List.length_cons, List.length_nil, List.cons_append, List.nil_append, List.replicate, List.set_cons_zero, List.set_cons_succ, List.getElem?_cons_zero, List.getElem?_cons_succ, Nat.reduceAdd, Nat.reduceSub, Nat.reduceLeDiff, true_and, and_true, Vl.int.injEq, Vl.bl.injEq, exists_eq_left']
    rw [if_pos hp]
  · have : (p.2 == Str.ofString "+") = false := by rw [beq_eq_false_iff_ne]; exact hp
    simp only [this, if_false, Bool.false_eq_true, w_var, w_c, w_2, w_3, w_aNil, w_aCons, w_A, w_and, w_or, w_if, w_neg, w_isi, w_sl, w_oNone, w_oSome, w_app, w_revT, w_lenSet, w_tV, w_tAn, w_tO, w_tN, w_tYs, w_sNil, w_sCons, w_then_nx, w_then_rt, w_ret, w_ex, w_sIf, w_asg, w_gN, w_gsNil, w_gsCons, w_gT, w_run, w_out_rt, w_out_nx, w_mkT, w_mkL, w_v1, h_some, List.map_cons, List.map_nil, List.length_cons, List.length_nil, List.cons_append, List.nil_append, List.replicate, List.set_cons_zero, List.set_cons_succ, List.getElem?_cons_zero, List.getElem?_cons_succ, Nat.reduceAdd, Nat.reduceSub, Nat.reduceLeDiff, true_and, and_true, Vl.int.injEq, Vl.bl.injEq, exists_eq_left']
    rw [if_neg hp]
theorem pm_ne : Str.ofString "+" ≠ Str.ofString "-" := by decide +kernel
theorem mate_ok {p : Sp2} (h : SpecOk p) : SpecOk (mate p) := by
  refine ⟨h.1, ?_⟩
  unfold mate
  by_cases hp : p.2 = Str.ofString "+"
  · rw [if_pos hp]; exact .inr rfl
  · rw [if_neg hp]; exact .inl rfl
theorem mate_ne {p : Sp2} (h : SpecOk p) : (mate p).2 ≠ p.2 := by
  unfold mate
  by_cases hp : p.2 = Str.ofString "+"
  · simp only [hp, if_true]; exact Ne.symm pm_ne
  · simp only [hp, if_false]; exact fun e => hp e.symm
theorem mate_mate {p : Sp2} (h : SpecOk p) : mate (mate p) = p := by
  obtain ⟨a, b⟩ := p
  rcases h.2 with hb | hb
  · have hb : b = Str.ofString "+" := hb
    subst hb
    simp [mate, Ne.symm pm_ne]
  · have hb : b = Str.ofString "-" := hb
    subst hb
    simp [mate, Ne.symm pm_ne]
theorem spec_b {p : Sp2} (h : SpecOk p) : specB (specV p) = true := by
  unfold specV specB
  have h1 : nmB (.str p.1) = true := h.1.1
  simp only [h1, Bool.true_and, sideB, isS]
  rcases h.2 with e | e
  · rw [e]; simp
  · rw [e]; simp
theorem spec_v {k : Nat} {M : Mem} {p : Sp2} (h : SpecOk p) : OkV k 2 M (specV p) := all_cons h.gs.1 (all_cons h.gs.2 all_nil)
/-! ### the dict of a stock -/
theorem merge_app : ∀ (more acc : List (Key × Vl)), ((acc ++ more).map (·.1)).Nodup → mergeL acc more = acc ++ more
  | [], acc, _ => by simp [mergeL]
  | kv :: more, acc, h => by
    have hn : (acc.any fun z => decide (z.1 = kv.1)) = false := by
      rw [Bool.eq_false_iff]
      intro q
      obtain ⟨z, hz, e⟩ := List.any_eq_true.mp q
      have e := of_decide_eq_true e
      rw [List.map_append, List.map_cons] at h
      have := (List.nodup_append.mp h).2.2 z.1 (List.mem_map.mpr ⟨z, hz, rfl⟩) kv.1 (.head _)
      exact this e
    have e : putL acc kv.1 kv.2 = acc ++ [kv] := by
      unfold putL
      rw [if_neg (by rw [hn]; exact Bool.false_ne_true)]
    show mergeL (putL acc kv.1 kv.2) more = _
    rw [e, merge_app more (acc ++ [kv]) (by rw [List.append_assoc]; exact h), List.append_assoc]
    rfl
theorem look_of : ∀ (kvs : List (Key × Vl)) (k : Key) (v : Vl), (kvs.map (·.1)).Nodup → (k, v) ∈ kvs → lookL kvs k = some v
  | [], _, _, _, h => nomatch h
  | kv :: kvs, k, v, hn, h => by
    rw [List.map_cons] at hn
    obtain ⟨h1, h2⟩ := List.nodup_cons.mp hn
    unfold lookL
    rw [List.find?_cons]
    rcases List.mem_cons.mp h with rfl | h
    · simp
    · have hne : kv.1 ≠ k := fun e => h1 (by rw [e]; exact List.mem_map.mpr ⟨(k, v), h, rfl⟩)
      have ih := look_of kvs k v h2 h
      unfold lookL at ih
      rw [show decide (kv.1 = k) = false from decide_eq_false hne]
      exact ih
theorem ports_eq {M : Mem} {rs : List Row} {r : Row} (hr : r ∈ rs) (hn : (rs.map (·.1)).Nodup) : ∃ N, m_ports_of [stockV rs, .str r.1] M = some (portsV r.2, M ++ N) := by
  suffices hh : H (m_ports_of [stockV rs, .str r.1] M) fun a b => a = portsV r.2 ∧ ∃ N, b = M ++ N by
    obtain ⟨a, b, e, rfl, N, rfl⟩ := hh
    exact ⟨N, e⟩
  unfold m_ports_of
  simp only [w_var, w_c, w_2, w_3, w_aNil, w_aCons, w_A, w_and, w_or, w_if, w_neg, w_isi, w_sl, w_oNone, w_oSome, w_app, w_revT, w_lenSet, w_tV, w_tAn, w_tO, w_tN, w_tYs, w_sNil, w_sCons, w_then_nx, w_then_rt, w_ret, w_ex, w_sIf, w_asg, w_gN, w_gsNil, w_gsCons, w_gT, w_run, w_out_rt, w_out_nx, w_mkT, w_mkL, w_v1, h_some, List.map_cons, List.map_nil, List.length_cons, List.length_nil, List.cons_append, List.nil_append, List.replicate, List.set_cons_zero, List.set_cons_succ, List.getElem?_cons_zero, List.getElem?_cons_succ, Nat.reduceAdd, Nat.reduceSub, Nat.reduceLeDiff, true_and, and_true, Vl.int.injEq, Vl.bl.injEq, exists_eq_left']
  have ek : mapO pairOf (rs.map rowV) = some (rs.map fun r => ((.inr r.1 : Key), portsV r.2)) := mapO_map fun r _ => rfl
  have hnk : ((rs.map fun r => ((.inr r.1 : Key), portsV r.2)).map (·.1)).Nodup := by
    rw [List.map_map]
    rw [List.Nodup, List.pairwise_map] at hn ⊢
    exact hn.imp fun h e => h (Sum.inr.inj e)
  have ed : vDict (stockV rs) M = some (.ref M.length, M ++ [.dic (rs.map fun r => ((.inr r.1 : Key), portsV r.2))]) := by
    simp only [stockV, vDict, ek]
    rw [merge_app _ [] (by simpa using hnk)]
    rfl
  refine .of ed ?_
  have eg : vDGet (.ref M.length) (.str r.1) (M ++ [.dic (rs.map fun r => ((.inr r.1 : Key), portsV r.2))]) = some (portsV r.2, M ++ [.dic (rs.map fun r => ((.inr r.1 : Key), portsV r.2))]) := by
    simp only [vDGet, app_at, Sh.keyOf]
    rw [look_of _ (.inr r.1) (portsV r.2) hnk (List.mem_map.mpr ⟨r, hr, rfl⟩)]
    rfl
  exact .of eg ⟨rfl, _, rfl⟩
end K01

set_option Elab.async false
set_option linter.all false
set_option maxRecDepth 100000
set_option maxHeartbeats 4000000
namespace K01
open PySem PySem.Spec PyProof.Rows L2 NdefX GenE Sh
theorem stock_v {k : Nat} {M : Mem} {rs : List Row} (h : ∀ r ∈ rs, RowOk r) : OkV k 5 M (stockV rs) := fun x hx => by
  obtain ⟨r, hr, rfl⟩ := List.mem_map.mp hx
  exact (h r hr).g.ok
theorem row_b {r : Row} (h : RowOk r) : entryB (rowV r) = true := by
  unfold rowV portsV entryB
  have h1 : nmB (.str r.1) = true := h.1.1
  have h2 : specsB (.tup true (r.2.map specV)) = true := by
    unfold specsB
    rw [List.all_eq_true]
    intro x hx
    obtain ⟨p, hp, rfl⟩ := List.mem_map.mp hx
    exact spec_b (h.2.2.2 p hp)
  have h3 : fewB (.tup true (r.2.map specV)) = true := by
    unfold fewB
    simp only [List.length_map, Bool.and_eq_true, decide_eq_true_eq]
    have := h.2.1
    have := h.2.2.1
    omega
  simp only [h1, h2, h3, Bool.and_self]
theorem stock_b {rs : List Row} (l1 : 1 ≤ rs.length) (l4 : rs.length ≤ 4) (h : ∀ r ∈ rs, RowOk r) (hs : (rs.map (·.1)).Pairwise SLt) : stockB (stockV rs) = true := by
  unfold stockV stockB
  simp only [List.length_map, Bool.and_eq_true, decide_eq_true_eq]
  refine ⟨by omega, by omega, ?_, ?_⟩
  · rw [List.all_eq_true]
    intro x hx
    obtain ⟨r, hr, rfl⟩ := List.mem_map.mp hx
    exact row_b (h r hr)
  · rw [rise_iff]
    unfold kindsOf
    rw [List.map_map]
    exact hs
theorem eqv_specs : ∀ ps : List Sp2, PyData.eqvAll (ps.map specD) (ps.map specD) = true
  | [] => by simp [PyData.eqvAll]
  | p :: ps => by simp [PyData.eqvAll, PyData.eqv, specD, eqv_specs ps]
theorem toD_ports {M : Mem} {r : Row} (h : GRow r) : toD 20 M (portsV r.2) = some (.tuple (r.2.map specD)) := by
  have e : mapO (toD 19 M) (r.2.map specV) = some (r.2.map specD) := mapO_map fun p hp => toD_spec (n := 17) (h.2.1 p hp).1 (h.2.1 p hp).2
  simp only [portsV, toD, e, Option.map_some]
theorem ne_ports {M : Mem} {r : Row} {Q : Vl → Mem → Prop} (h : GRow r) : H (vNe (portsV r.2) (portsV r.2) M) Q = Q (.bl false) M := by
  unfold vNe
  rw [toD_ports h]
  simp only [PyData.eqv, eqv_specs, Bool.not_true, h_some]
theorem ne_str {M : Mem} {a : Str} {Q : Vl → Mem → Prop} (h : GS a) : H (vNe (.str a) (.str a) M) Q = Q (.bl false) M := by
  simp only [vNe, toD, h.1, if_true, PyData.eqv, beq_self_eq_true, Bool.not_true, h_some]
theorem eq_str {M : Mem} {a b : Str} {Q : Vl → Mem → Prop} (ha : GS a) (hb : GS b) (hne : a ≠ b) : H (vEq (.str a) (.str b) M) Q = Q (.bl false) M := by
  have : (a == b) = false := by rw [beq_eq_false_iff_ne]; exact hne
  simp only [vEq, toD, ha.1, hb.1, if_true, PyData.eqv, this, h_some]
theorem ne_spec {M : Mem} {p : Sp2} {Q : Vl → Mem → Prop} (h : SpecOk p) : H (vNe (specV p) (specV p) M) Q = Q (.bl false) M := by
  unfold vNe
  rw [toD_spec (n := 18) h.gs.1 h.gs.2]
  simp only [specD, PyData.eqv, PyData.eqvAll, beq_self_eq_true, Bool.and_self, Bool.not_true, h_some]
theorem ix_spec0 {M : Mem} {p : Sp2} {Q : Vl → Mem → Prop} : H (vIx (specV p) (.int 0) M) Q = Q (.str p.1) M := ix_tup atI0
theorem ix_spec1 {M : Mem} {p : Sp2} {Q : Vl → Mem → Prop} : H (vIx (specV p) (.int 1) M) Q = Q (.str p.2) M := ix_tup atI1
theorem good {o : Ob} {ns : List Int} (ho : o.seq = some (ns.map .int)) (hl : ns.length ≤ 63) : ∃ M, m_law [.ref 0] [o] = some (.bl true, M) := by
  suffices hh : H (m_law [.ref 0] [o]) fun a _ => a = .bl true by
    obtain ⟨a, b, e, rfl⟩ := hh
    exact ⟨b, e⟩
  unfold m_law
  simp only [w_var, w_c, w_2, w_3, w_aNil, w_aCons, w_A, w_and, w_or, w_if, w_neg, w_isi, w_sl, w_oNone, w_oSome, w_app, w_revT, w_lenSet, w_tV, w_tAn, w_tO, w_tN, w_tYs, w_sNil, w_sCons, w_then_nx, w_then_rt, w_ret, w_ex, w_sIf, w_asg, w_gN, w_gsNil, w_gsCons, w_gT, w_run, w_out_rt, w_out_nx, w_mkT, w_mkL, w_v1, h_some, List.map_cons, List.map_nil, List.length_cons, List.length_nil, List.cons_append, List.nil_append, List.replicate, List.set_cons_zero, List.set_cons_succ, List.getElem?_cons_zero, List.getElem?_cons_succ, Nat.reduceAdd, Nat.reduceSub, Nat.reduceLeDiff, true_and, and_true, Vl.int.injEq, Vl.bl.injEq, exists_eq_left', w_for, w_iSeq, w_iR2]
  have e0 : ([o] : Mem)[0]? = some o := rfl
  have sq : ∀ {M : Mem}, M[0]? = some o → seqAt M 0 = some (ns.map .int) := fun {M} e => by
    unfold seqAt
    rw [e]
    exact ho
  refine digits_ok (sq e0) (by decide) fun d => ?_
  have k1 : Held 1 ([o] ++ [Ob.lst [.int d]]) := ⟨d, rfl⟩
  show H (m_law_stock [.ref 1] _) _
  refine stock_ok k1 fun rs M2 g2 l1 l4 hr hs => ?_
  have m0 : M2[0]? = some o := g2.at (by decide) rfl
  obtain ⟨N, es⟩ := is_stock_eq (k := 1) (M := M2) (stock_v hr) (by decide)
  refine .of es ?_
  rw [stock_b l1 l4 hr hs]
  refine .of told_eq ?_
  simp only [w_var, w_c, w_2, w_3, w_aNil, w_aCons, w_A, w_and, w_or, w_if, w_neg, w_isi, w_sl, w_oNone, w_oSome, w_app, w_revT, w_lenSet, w_tV, w_tAn, w_tO, w_tN, w_tYs, w_sNil, w_sCons, w_then_nx, w_then_rt, w_ret, w_ex, w_sIf, w_asg, w_gN, w_gsNil, w_gsCons, w_gT, w_run, w_out_rt, w_out_nx, w_mkT, w_mkL, w_v1, h_some, List.map_cons, List.map_nil, List.length_cons, List.length_nil, List.cons_append, List.nil_append, List.replicate, List.set_cons_zero, List.set_cons_succ, List.getElem?_cons_zero, List.getElem?_cons_succ, Nat.reduceAdd, Nat.reduceSub, Nat.reduceLeDiff, true_and, and_true, Vl.int.injEq, Vl.bl.injEq, exists_eq_left', beq_self_eq_true, Bool.not_true, Bool.false_eq_true, if_false]
  have hnd : (rs.map (·.1)).Nodup := hs.imp fun {a b} h e => by rw [e] at h; exact List.lt_irrefl _ h
  have g3 : Gr 1 M2 (M2 ++ N) := g2.held.gr
  show H3 (forL (fun _ => some (rs.map rowV)) _ _ (rs.map rowV).length 0 _ _) _
  refine for_run (rs.map rowV) (fun i ρ M' => (∃ a2 a3 a4 a5 a8, ρ = [some (.ref 0), some (stockV rs), a2, a3, a4, a5, none, none, a8]) ∧ Gr 1 M2 M') ⟨⟨_, _, _, _, _, rfl⟩, g3⟩ (Nat.le_refl _) ?_ ?_
  · rintro i x ρ M3 ex ⟨⟨a2, a3, a4, a5, a8, rfl⟩, g⟩
    refine ⟨rfl, ?_⟩
    obtain ⟨r, hrm, rfl⟩ := List.mem_map.mp (List.mem_of_getElem? ex)
    have hro := hr r hrm
    unfold rowV
    simp only [w_var, w_c, w_2, w_3, w_aNil, w_aCons, w_A, w_and, w_or, w_if, w_neg, w_isi, w_sl, w_oNone, w_oSome, w_app, w_revT, w_lenSet, w_tV, w_tAn, w_tO, w_tN, w_tYs, w_sNil, w_sCons, w_then_nx, w_then_rt, w_ret, w_ex, w_sIf, w_asg, w_gN, w_gsNil, w_gsCons, w_gT, w_run, w_out_rt, w_out_nx, w_mkT, w_mkL, w_v1, h_some, List.map_cons, List.map_nil, List.length_cons, List.length_nil, List.cons_append, List.nil_append, List.replicate, List.set_cons_zero, List.set_cons_succ, List.getElem?_cons_zero, List.getElem?_cons_succ, Nat.reduceAdd, Nat.reduceSub, Nat.reduceLeDiff, true_and, and_true, Vl.int.injEq, Vl.bl.injEq, exists_eq_left', w_iSeq]
    obtain ⟨N1, e1⟩ := ports_eq (M := M3) hrm hnd
    refine .of e1 ?_
    rw [ne_ports hro.g]
    simp only [w_var, w_c, w_2, w_3, w_aNil, w_aCons, w_A, w_and, w_or, w_if, w_neg, w_isi, w_sl, w_oNone, w_oSome, w_app, w_revT, w_lenSet, w_tV, w_tAn, w_tO, w_tN, w_tYs, w_sNil, w_sCons, w_then_nx, w_then_rt, w_ret, w_ex, w_sIf, w_asg, w_gN, w_gsNil, w_gsCons, w_gT, w_run, w_out_rt, w_out_nx, w_mkT, w_mkL, w_v1, h_some, List.map_cons, List.map_nil, List.length_cons, List.length_nil, List.cons_append, List.nil_append, List.replicate, List.set_cons_zero, List.set_cons_succ, List.getElem?_cons_zero, List.getElem?_cons_succ, Nat.reduceAdd, Nat.reduceSub, Nat.reduceLeDiff, true_and, and_true, Vl.int.injEq, Vl.bl.injEq, exists_eq_left', Bool.false_eq_true, if_false]
    have g4 := g.app N1
    show H3 (forL (fun _ => some (r.2.map specV)) _ _ (r.2.map specV).length 0 _ _) _
    refine for_run (r.2.map specV) (fun i ρ M' => (∃ a2 a5 a8, ρ = [some (.ref 0), some (stockV rs), a2, some (.str r.1), some (portsV r.2), a5, none, none, a8]) ∧ Gr 1 M2 M') ⟨⟨_, _, _, rfl⟩, g4⟩ (Nat.le_refl _) ?_ ?_
    · rintro j y ρ M4 ey ⟨⟨a2, a5, a8, rfl⟩, g⟩
      refine ⟨rfl, ?_⟩
      obtain ⟨p, hpm, rfl⟩ := List.mem_map.mp (List.mem_of_getElem? ey)
      have hp := hro.2.2.2 p hpm
      simp only [w_var, w_c, w_2, w_3, w_aNil, w_aCons, w_A, w_and, w_or, w_if, w_neg, w_isi, w_sl, w_oNone, w_oSome, w_app, w_revT, w_lenSet, w_tV, w_tAn, w_tO, w_tN, w_tYs, w_sNil, w_sCons, w_then_nx, w_then_rt, w_ret, w_ex, w_sIf, w_asg, w_gN, w_gsNil, w_gsCons, w_gT, w_run, w_out_rt, w_out_nx, w_mkT, w_mkL, w_v1, h_some, List.map_cons, List.map_nil, List.length_cons, List.length_nil, List.cons_append, List.nil_append, List.replicate, List.set_cons_zero, List.set_cons_succ, List.getElem?_cons_zero, List.getElem?_cons_succ, Nat.reduceAdd, Nat.reduceSub, Nat.reduceLeDiff, true_and, and_true, Vl.int.injEq, Vl.bl.injEq, exists_eq_left']
      refine .of (mate_eq hp) ?_
      have hm := mate_ok hp
      obtain ⟨N2, e2⟩ := law_spec_eq (k := 1) (M := M4) (spec_v hm) (by decide) g.held
      refine .of e2 ?_
      rw [spec_b hm]
      simp only [w_var, w_c, w_2, w_3, w_aNil, w_aCons, w_A, w_and, w_or, w_if, w_neg, w_isi, w_sl, w_oNone, w_oSome, w_app, w_revT, w_lenSet, w_tV, w_tAn, w_tO, w_tN, w_tYs, w_sNil, w_sCons, w_then_nx, w_then_rt, w_ret, w_ex, w_sIf, w_asg, w_gN, w_gsNil, w_gsCons, w_gT, w_run, w_out_rt, w_out_nx, w_mkT, w_mkL, w_v1, h_some, List.map_cons, List.map_nil, List.length_cons, List.length_nil, List.cons_append, List.nil_append, List.replicate, List.set_cons_zero, List.set_cons_succ, List.getElem?_cons_zero, List.getElem?_cons_succ, Nat.reduceAdd, Nat.reduceSub, Nat.reduceLeDiff, true_and, and_true, Vl.int.injEq, Vl.bl.injEq, exists_eq_left', Bool.not_true, Bool.false_eq_true, if_false, ix_spec0, ix_spec1, ne_str hp.gs.1, eq_str hm.gs.2 hp.gs.2 (mate_ne hp), show (mate p).1 = p.1 from rfl]
      refine .of (mate_eq hm) ?_
      rw [mate_mate hp, ne_spec hp]
      simp only [w_var, w_c, w_2, w_3, w_aNil, w_aCons, w_A, w_and, w_or, w_if, w_neg, w_isi, w_sl, w_oNone, w_oSome, w_app, w_revT, w_lenSet, w_tV, w_tAn, w_tO, w_tN, w_tYs, w_sNil, w_sCons, w_then_nx, w_then_rt, w_ret, w_ex, w_sIf, w_asg, w_gN, w_gsNil, w_gsCons, w_gT, w_run, w_out_rt, w_out_nx, w_mkT, w_mkL, w_v1, h_some, List.map_cons, List.map_nil, List.length_cons, List.length_nil, List.cons_append, List.nil_append, List.replicate, List.set_cons_zero, List.set_cons_succ, List.getElem?_cons_zero, List.getElem?_cons_succ, Nat.reduceAdd, Nat.reduceSub, Nat.reduceLeDiff, true_and, and_true, Vl.int.injEq, Vl.bl.injEq, exists_eq_left', Bool.false_eq_true, if_false]
      exact .inl ⟨⟨_, _, _, rfl⟩, g.app N2⟩
    · rintro ρ M4 ⟨⟨a2, a5, a8, rfl⟩, g⟩
      exact ⟨rfl, .inl ⟨rfl, ⟨_, _, _, _, _, rfl⟩, g⟩⟩
  · rintro ρ M3 ⟨⟨a2, a3, a4, a5, a8, rfl⟩, g⟩
    refine ⟨rfl, ?_⟩
    have m3 : M3[0]? = some o := g.at (by decide) m0
    simp only [w_var, w_c, w_2, w_3, w_aNil, w_aCons, w_A, w_and, w_or, w_if, w_neg, w_isi, w_sl, w_oNone, w_oSome, w_app, w_revT, w_lenSet, w_tV, w_tAn, w_tO, w_tN, w_tYs, w_sNil, w_sCons, w_then_nx, w_then_rt, w_ret, w_ex, w_sIf, w_asg, w_gN, w_gsNil, w_gsCons, w_gT, w_run, w_out_rt, w_out_nx, w_mkT, w_mkL, w_v1, h_some, List.map_cons, List.map_nil, List.length_cons, List.length_nil, List.cons_append, List.nil_append, List.replicate, List.set_cons_zero, List.set_cons_succ, List.getElem?_cons_zero, List.getElem?_cons_succ, Nat.reduceAdd, Nat.reduceSub, Nat.reduceLeDiff, true_and, and_true, Vl.int.injEq, Vl.bl.injEq, exists_eq_left', w_for, w_iR2, w_lenR (sq m3), List.length_map]
    refine ⟨⟨by decide, by decide, by omega, by omega⟩, ?_⟩
    have hln : (rng 1 ((ns.length : Int) - 1).toNat).length = ((ns.length : Int) - 1).toNat := by simp [rng]
    refine for_run (rng 1 ((ns.length : Int) - 1).toNat) (fun i ρ M' => (∃ a2 a3 a4 a5 a6 a7 a8, ρ = [some (.ref 0), some (stockV rs), a2, a3, a4, a5, a6, a7, a8]) ∧ M'[0]? = some o ∧ 0 < M'.length) ⟨⟨_, _, _, _, _, _, _, rfl⟩, m3, by have := g.held.lt; omega⟩ (by rw [hln]; exact Nat.le_refl _) ?_ ?_
    · rintro i x ρ M4 ex ⟨⟨a2, a3, a4, a5, a6, a7, a8, rfl⟩, m4, p4⟩
      refine ⟨rfl, ?_⟩
      obtain ⟨z, hz, rfl⟩ : ∃ z : Int, 0 ≤ z ∧ x = .int z := by
        have := List.mem_of_getElem? ex
        unfold rng at this
        obtain ⟨z, _, rfl⟩ := List.mem_map.mp this
        exact ⟨_, by omega, rfl⟩
      simp only [w_var, w_c, w_2, w_3, w_aNil, w_aCons, w_A, w_and, w_or, w_if, w_neg, w_isi, w_sl, w_oNone, w_oSome, w_app, w_revT, w_lenSet, w_tV, w_tAn, w_tO, w_tN, w_tYs, w_sNil, w_sCons, w_then_nx, w_then_rt, w_ret, w_ex, w_sIf, w_asg, w_gN, w_gsNil, w_gsCons, w_gT, w_run, w_out_rt, w_out_nx, w_mkT, w_mkL, w_v1, h_some, List.map_cons, List.map_nil, List.length_cons, List.length_nil, List.cons_append, List.nil_append, List.replicate, List.set_cons_zero, List.set_cons_succ, List.getElem?_cons_zero, List.getElem?_cons_succ, Nat.reduceAdd, Nat.reduceSub, Nat.reduceLeDiff, true_and, and_true, Vl.int.injEq, Vl.bl.injEq, exists_eq_left']
      refine digits_ok (sq m4) hz fun d' => ?_
      have k4 : Held M4.length (M4 ++ [Ob.lst [.int d']]) := ⟨d', app_at _ [] _⟩
      generalize M4.length = h at k4 p4
      have hne : (0 : Nat) ≠ h := by omega
      have m5 : (M4 ++ [Ob.lst [.int d']])[0]? = some o := by
        rw [List.getElem?_append_left (List.getElem?_eq_some_iff.mp m4).1]
        exact m4
      generalize M4 ++ [Ob.lst [.int d']] = M5 at k4 m5
      obtain ⟨r0, rt, er⟩ : ∃ r0 rt, rs = r0 :: rt := by
        cases rs with
        | nil => simp at l1
        | cons a b => exact ⟨a, b, rfl⟩
      have hr0 := hr r0 (by rw [er]; exact .head _)
      obtain ⟨p0, pt, ep⟩ : ∃ p0 pt, r0.2 = p0 :: pt := by
        have := hr0.2.1
        cases hh : r0.2 with
        | nil => rw [hh] at this; simp at this
        | cons a b => exact ⟨a, b, rfl⟩
      have hp0 := hr0.2.2.2 p0 (by rw [ep]; exact .head _)
      have i0 : ∀ {Q : Vl → Mem → Prop} {M : Mem}, H (vIx (stockV rs) (.int 0) M) Q = Q (rowV r0) M := fun {Q M} => ix_tup (by rw [er, List.map_cons, atI0])
      have i1 : ∀ {Q : Vl → Mem → Prop} {M : Mem}, H (vIx (rowV r0) (.int 1) M) Q = Q (portsV r0.2) M := fun {Q M} => ix_tup atI1
      have i2 : ∀ {Q : Vl → Mem → Prop} {M : Mem}, H (vIx (portsV r0.2) (.int 0) M) Q = Q (specV p0) M := fun {Q M} => ix_tup (by rw [ep, List.map_cons, atI0])
      rw [i0, i1, i2]
      refine text_ok k4 fun tx M6 g6 t1 t2 => ?_
      refine bent_spec_ok g6.held hp0.gs.1 hp0.gs.2 fun bs M7 g7 h7 => ?_
      refine bent_ok g7.held (fun r hrm => (hr r hrm).g) l1 l4 fun bt M8 g8 h8 => ?_
      refine odd_ok g8.held fun od M9 g9 h9 => ?_
      refine take_ok g9.held.app (by decide) (by decide) fun c MA c0 c1 gA _ => ?_
      have gB := g9.held.gr.trans gA
      have hlt := g9.held.lt
      refine pick (gA.at (by omega) (app_at _ [] _)) c0 (by simpa using c1) fun th hth => ?_
      have oth : OkV h 9 MA th := by
        revert th
        refine all_cons ?_ (all_cons ?_ (all_cons ?_ (all_cons ?_ all_nil)))
        · exact ⟨t1, by omega⟩
        · exact (h7.grow (g8.trans (g9.trans gB))).up (by decide)
        · exact h8.grow (g9.trans gB)
        · exact (h9.grow gB).up (by decide)
      have kA := gB.held
      have mA : MA[0]? = some o := (g6.trans (g7.trans (g8.trans (g9.trans gB)))).at hne m5
      refine .of (is_name_eq oth) ?_
      obtain ⟨N1, f1⟩ := law_name_eq oth
      refine .of f1 ?_
      refine .of told_eq ?_
      simp only [w_var, w_c, w_2, w_3, w_aNil, w_aCons, w_A, w_and, w_or, w_if, w_neg, w_isi, w_sl, w_oNone, w_oSome, w_app, w_revT, w_lenSet, w_tV, w_tAn, w_tO, w_tN, w_tYs, w_sNil, w_sCons, w_then_nx, w_then_rt, w_ret, w_ex, w_sIf, w_asg, w_gN, w_gsNil, w_gsCons, w_gT, w_run, w_out_rt, w_out_nx, w_mkT, w_mkL, w_v1, h_some, List.map_cons, List.map_nil, List.length_cons, List.length_nil, List.cons_append, List.nil_append, List.replicate, List.set_cons_zero, List.set_cons_succ, List.getElem?_cons_zero, List.getElem?_cons_succ, Nat.reduceAdd, Nat.reduceSub, Nat.reduceLeDiff, true_and, and_true, Vl.int.injEq, Vl.bl.injEq, exists_eq_left', beq_self_eq_true, Bool.not_true, Bool.false_eq_true, if_false]
      have ob := oth.grow (kA.gr (N := N1))
      have kB : Held h (MA ++ N1) := kA.app
      refine .of (is_spec_eq ob (by decide)) ?_
      obtain ⟨N2, f2⟩ := law_spec_eq ob (by decide) kB
      refine .of f2 ?_
      refine .of told_eq ?_
      simp only [w_var, w_c, w_2, w_3, w_aNil, w_aCons, w_A, w_and, w_or, w_if, w_neg, w_isi, w_sl, w_oNone, w_oSome, w_app, w_revT, w_lenSet, w_tV, w_tAn, w_tO, w_tN, w_tYs, w_sNil, w_sCons, w_then_nx, w_then_rt, w_ret, w_ex, w_sIf, w_asg, w_gN, w_gsNil, w_gsCons, w_gT, w_run, w_out_rt, w_out_nx, w_mkT, w_mkL, w_v1, h_some, List.map_cons, List.map_nil, List.length_cons, List.length_nil, List.cons_append, List.nil_append, List.replicate, List.set_cons_zero, List.set_cons_succ, List.getElem?_cons_zero, List.getElem?_cons_succ, Nat.reduceAdd, Nat.reduceSub, Nat.reduceLeDiff, true_and, and_true, Vl.int.injEq, Vl.bl.injEq, exists_eq_left', beq_self_eq_true, Bool.not_true, Bool.false_eq_true, if_false]
      have oc := ob.grow (kB.gr (N := N2))
      have kC : Held h (MA ++ N1 ++ N2) := kB.app
      obtain ⟨N3, f3⟩ := is_stock_eq oc (by decide)
      refine .of f3 ?_
      have od' := oc.grow (kC.gr (N := N3))
      have kD : Held h (MA ++ N1 ++ N2 ++ N3) := kC.app
      obtain ⟨N4, f4⟩ := law_right_eq od' (by decide) kD
      refine .of f4 ?_
      refine .of told_eq ?_
      simp only [w_var, w_c, w_2, w_3, w_aNil, w_aCons, w_A, w_and, w_or, w_if, w_neg, w_isi, w_sl, w_oNone, w_oSome, w_app, w_revT, w_lenSet, w_tV, w_tAn, w_tO, w_tN, w_tYs, w_sNil, w_sCons, w_then_nx, w_then_rt, w_ret, w_ex, w_sIf, w_asg, w_gN, w_gsNil, w_gsCons, w_gT, w_run, w_out_rt, w_out_nx, w_mkT, w_mkL, w_v1, h_some, List.map_cons, List.map_nil, List.length_cons, List.length_nil, List.cons_append, List.nil_append, List.replicate, List.set_cons_zero, List.set_cons_succ, List.getElem?_cons_zero, List.getElem?_cons_succ, Nat.reduceAdd, Nat.reduceSub, Nat.reduceLeDiff, true_and, and_true, Vl.int.injEq, Vl.bl.injEq, exists_eq_left', beq_self_eq_true, Bool.not_true, Bool.false_eq_true, if_false]
      have gE := (kA.gr (N := N1)).trans ((kB.gr (N := N2)).trans ((kC.gr (N := N3)).trans (kD.gr (N := N4))))
      exact .inl ⟨⟨_, _, _, _, _, _, _, rfl⟩, gE.at hne mA, by have := gE.held.lt; omega⟩
    · rintro ρ M4 ⟨⟨a2, a3, a4, a5, a6, a7, a8, rfl⟩, m4, p4⟩
      refine ⟨rfl, ?_⟩
      simp only [w_var, w_c, w_2, w_3, w_aNil, w_aCons, w_A, w_and, w_or, w_if, w_neg, w_isi, w_sl, w_oNone, w_oSome, w_app, w_revT, w_lenSet, w_tV, w_tAn, w_tO, w_tN, w_tYs, w_sNil, w_sCons, w_then_nx, w_then_rt, w_ret, w_ex, w_sIf, w_asg, w_gN, w_gsNil, w_gsCons, w_gT, w_run, w_out_rt, w_out_nx, w_mkT, w_mkL, w_v1, h_some, List.map_cons, List.map_nil, List.length_cons, List.length_nil, List.cons_append, List.nil_append, List.replicate, List.set_cons_zero, List.set_cons_succ, List.getElem?_cons_zero, List.getElem?_cons_succ, Nat.reduceAdd, Nat.reduceSub, Nat.reduceLeDiff, true_and, and_true, Vl.int.injEq, Vl.bl.injEq, exists_eq_left']
end K01

set_option Elab.async false
set_option linter.all false
set_option maxRecDepth 100000
set_option maxHeartbeats 0
namespace K01
open PySem PySem.Spec PyProof.Rows L2 NdefX GenE Sh
def d_is_tuple : He.DefD := ⟨("is_tuple", none), "is_tuple", "is_tuple", defArgs s_is_tuple, defBody s_is_tuple, defScope s_is_tuple, [], []⟩
def d_rises : He.DefD := ⟨("rises", none), "rises", "rises", defArgs s_rises, defBody s_rises, defScope s_rises, [], []⟩
def d_is_spelled : He.DefD := ⟨("is_spelled", none), "is_spelled", "is_spelled", defArgs s_is_spelled, defBody s_is_spelled, defScope s_is_spelled, [], []⟩
def d_is_name : He.DefD := ⟨("is_name", none), "is_name", "is_name", defArgs s_is_name, defBody s_is_name, defScope s_is_name, [], []⟩
def d_is_spec : He.DefD := ⟨("is_spec", none), "is_spec", "is_spec", defArgs s_is_spec, defBody s_is_spec, defScope s_is_spec, [], []⟩
def d_are_specs : He.DefD := ⟨("are_specs", none), "are_specs", "are_specs", defArgs s_are_specs, defBody s_are_specs, defScope s_are_specs, [], []⟩
def d_is_entry : He.DefD := ⟨("is_entry", none), "is_entry", "is_entry", defArgs s_is_entry, defBody s_is_entry, defScope s_is_entry, [], []⟩
def d_is_stock : He.DefD := ⟨("is_stock", none), "is_stock", "is_stock", defArgs s_is_stock, defBody s_is_stock, defScope s_is_stock, [], []⟩
def d_mate_of : He.DefD := ⟨("mate_of", none), "mate_of", "mate_of", defArgs s_mate_of, defBody s_mate_of, defScope s_mate_of, [], []⟩
def d_ports_of : He.DefD := ⟨("ports_of", none), "ports_of", "ports_of", defArgs s_ports_of, defBody s_ports_of, defScope s_ports_of, [], []⟩
def d_law_digits : He.DefD := ⟨("_law_digits", none), "_law_digits", "_law_digits", defArgs s_law_digits, defBody s_law_digits, defScope s_law_digits, [], []⟩
def d_law_take : He.DefD := ⟨("_law_take", none), "_law_take", "_law_take", defArgs s_law_take, defBody s_law_take, defScope s_law_take, [], []⟩
def d_law_words : He.DefD := ⟨("_law_words", none), "_law_words", "_law_words", defArgs s_law_words, defBody s_law_words, defScope s_law_words, [], []⟩
def d_law_stock : He.DefD := ⟨("_law_stock", none), "_law_stock", "_law_stock", defArgs s_law_stock, defBody s_law_stock, defScope s_law_stock, [], []⟩
def d_law_name : He.DefD := ⟨("_law_name", none), "_law_name", "_law_name", defArgs s_law_name, defBody s_law_name, defScope s_law_name, [], []⟩
def d_law_spec : He.DefD := ⟨("_law_spec", none), "_law_spec", "_law_spec", defArgs s_law_spec, defBody s_law_spec, defScope s_law_spec, [], []⟩
def d_law_right : He.DefD := ⟨("_law_right", none), "_law_right", "_law_right", defArgs s_law_right, defBody s_law_right, defScope s_law_right, [], []⟩
def d_law_text : He.DefD := ⟨("_law_text", none), "_law_text", "_law_text", defArgs s_law_text, defBody s_law_text, defScope s_law_text, [], []⟩
def d_law_odd : He.DefD := ⟨("_law_odd", none), "_law_odd", "_law_odd", defArgs s_law_odd, defBody s_law_odd, defScope s_law_odd, [], []⟩
def d_law_bent_spec : He.DefD := ⟨("_law_bent_spec", none), "_law_bent_spec", "_law_bent_spec", defArgs s_law_bent_spec, defBody s_law_bent_spec, defScope s_law_bent_spec, [], []⟩
def d_law_bent_row : He.DefD := ⟨("_law_bent_row", none), "_law_bent_row", "_law_bent_row", defArgs s_law_bent_row, defBody s_law_bent_row, defScope s_law_bent_row, [], []⟩
def d_law_bent : He.DefD := ⟨("_law_bent", none), "_law_bent", "_law_bent", defArgs s_law_bent, defBody s_law_bent, defScope s_law_bent, [], []⟩
def d_law_told : He.DefD := ⟨("_law_told", none), "_law_told", "_law_told", defArgs s_law_told, defBody s_law_told, defScope s_law_told, [], []⟩
def d_law : He.DefD := ⟨("law", none), "law", "law", defArgs s_law, defBody s_law, defScope s_law, [], []⟩
def fns : List He.DefD := [d_is_tuple, d_rises, d_is_spelled, d_is_name, d_is_spec, d_are_specs, d_is_entry, d_is_stock, d_mate_of, d_ports_of, d_law_digits, d_law_take, d_law_words, d_law_stock, d_law_name, d_law_spec, d_law_right, d_law_text, d_law_odd, d_law_bent_spec, d_law_bent_row, d_law_bent, d_law_told, d_law]
def fas : List He.Fa := [.glo "is_tuple", .glo "rises", .glo "is_spelled", .glo "is_name", .glo "is_spec", .glo "are_specs", .glo "is_entry", .glo "is_stock", .glo "mate_of", .glo "ports_of", .glo "_law_digits", .glo "_law_take", .glo "_law_words", .glo "_law_stock", .glo "_law_name", .glo "_law_spec", .glo "_law_right", .glo "_law_text", .glo "_law_odd", .glo "_law_bent_spec", .glo "_law_bent_row", .glo "_law_bent", .glo "_law_told", .glo "law", .free "all", .free "bool", .free "dict", .free "isinstance", .free "len", .free "list", .free "range", .free "set", .free "sorted", .free "str", .free "tuple", .str "LETTERS" (Str.ofString "abcdefghijklmnopqrstuvwxyz"), .int "NAME_MOST" 8, .int "KINDS_MOST" 8, .int "PORTS_MOST" 4]
def tfs : List He.Defn := [("rises", none), ("is_spelled", none), ("are_specs", none), ("is_stock", none)]
abbrev Rr : PySem.W.OpenRow := PySem.W.OpenLaw.row PySem.Challenge.rw_weave_k01_names_and_stocks
abbrev hk : PySem.W.Hook := He.hookX 6 fas fns [] tfs (fun _ => true)
def ob (s : PySem.W.SharedT) : He.AlX := He.obsX 6 fas fns [] tfs (fun _ => true) (HandSHeadRun.getT s)
theorem ob_eq (s : PySem.W.SharedT) : ob s = hk.obs s.abs := He.obsX_eq (HandSHeadRun.getT_eq s)
def loose : List Str := ["is_tuple", "rises", "is_spelled", "LETTERS", "NAME_MOST", "KINDS_MOST", "PORTS_MOST", "is_name", "is_spec", "are_specs", "is_entry", "is_stock", "mate_of", "ports_of", "_law_digits", "_law_take", "_law_words", "_law_stock", "_law_name", "_law_spec", "_law_right", "_law_text", "_law_odd", "_law_bent_spec", "_law_bent_row", "_law_bent", "_law_told"]
theorem run (w : World) : HandSHeadRun.RunEq Rr (PySem.W.view Rr.prog [30]) hk ob 4000 loose w := by
  intro os
  kernel_rfl
section
variable {w : World} {K : PySem.W.Frag} {h : Heap} {mg : Str → Option Value}
theorem mx (X : K.In h) (G : h.Ns mainGlobals mg) (c : He.SaysD fas fns K) : Mx mg where
  b_all := He.free_ok X G (c.fact 24 (f := .free "all") rfl)
  b_bool := He.free_ok X G (c.fact 25 (f := .free "bool") rfl)
  b_dict := He.free_ok X G (c.fact 26 (f := .free "dict") rfl)
  b_isinstance := He.free_ok X G (c.fact 27 (f := .free "isinstance") rfl)
  b_len := He.free_ok X G (c.fact 28 (f := .free "len") rfl)
  b_list := He.free_ok X G (c.fact 29 (f := .free "list") rfl)
  b_range := He.free_ok X G (c.fact 30 (f := .free "range") rfl)
  b_set := He.free_ok X G (c.fact 31 (f := .free "set") rfl)
  b_sorted := He.free_ok X G (c.fact 32 (f := .free "sorted") rfl)
  b_str := He.free_ok X G (c.fact 33 (f := .free "str") rfl)
  b_tuple := He.free_ok X G (c.fact 34 (f := .free "tuple") rfl)
  c_LETTERS := He.str_ok X G (c.fact 35 rfl)
  c_NAME_MOST := He.int_ok X G (c.fact 36 rfl)
  c_KINDS_MOST := He.int_ok X G (c.fact 37 rfl)
  c_PORTS_MOST := He.int_ok X G (c.fact 38 rfl)
abbrev cs (K : PySem.W.Frag) : List (Addr × Addr) := tfs.map (He.cT K)
abbrev tT (K : PySem.W.Frag) : List Addr := (cs K).map (·.2)
theorem lawAt (X : K.In h) (G : h.Ns mainGlobals mg) (c : He.SaysX fas fns [] tfs (fun _ => true) w h K) (fa : Addr) (hfa : mg "law" = some (.ref fa))
    (good : ∀ (o : Ob) (ns : List Int), o.seq = some (ns.map Vl.int) → ns.length ≤ 63 → (∀ z ∈ ns, Builtin.Int.intBits z ≤ 1048576) → ∃ M, m_law [.ref 0] [o] = some (.bl true, M)) :
    LamX.LawAtS PySem.Challenge.rw_weave_k01_names_and_stocks w K CX0 10 63 "_law_script" mg fa h := by
  have cd : He.SaysD fas fns K := congrArg (fun z : He.AlT => z.1) c.t
  have x := mx X G cd
  obtain ⟨fd_is_tuple, F_is_tuple⟩ := cd.def_ 0 (d := d_is_tuple) rfl
  obtain ⟨oc_is_tuple, od_is_tuple, kV_is_tuple, doc_is_tuple, pm_is_tuple, an_is_tuple, cc_is_tuple, ct_is_tuple, osl_is_tuple, e_is_tuple, lk_is_tuple, hcd_is_tuple, kp_is_tuple⟩ := fun_out F_is_tuple
  have hg_is_tuple : mg "is_tuple" = some (.ref (He.fAd K ("is_tuple", none))) := He.glo_ok X G (cd.fact 0 (f := .glo "is_tuple") rfl)
  obtain ⟨fd_rises, F_rises⟩ := cd.def_ 1 (d := d_rises) rfl
  obtain ⟨oc_rises, od_rises, kV_rises, doc_rises, pm_rises, an_rises, cc_rises, ct_rises, osl_rises, e_rises, lk_rises, hcd_rises, kp_rises⟩ := fun_out F_rises
  have hg_rises : mg "rises" = some (.ref (He.fAd K ("rises", none))) := He.glo_ok X G (cd.fact 1 (f := .glo "rises") rfl)
  obtain ⟨fd_is_spelled, F_is_spelled⟩ := cd.def_ 2 (d := d_is_spelled) rfl
  obtain ⟨oc_is_spelled, od_is_spelled, kV_is_spelled, doc_is_spelled, pm_is_spelled, an_is_spelled, cc_is_spelled, ct_is_spelled, osl_is_spelled, e_is_spelled, lk_is_spelled, hcd_is_spelled, kp_is_spelled⟩ := fun_out F_is_spelled
  have hg_is_spelled : mg "is_spelled" = some (.ref (He.fAd K ("is_spelled", none))) := He.glo_ok X G (cd.fact 2 (f := .glo "is_spelled") rfl)
  obtain ⟨fd_is_name, F_is_name⟩ := cd.def_ 3 (d := d_is_name) rfl
  obtain ⟨oc_is_name, od_is_name, kV_is_name, doc_is_name, pm_is_name, an_is_name, cc_is_name, ct_is_name, osl_is_name, e_is_name, lk_is_name, hcd_is_name, kp_is_name⟩ := fun_out F_is_name
  have hg_is_name : mg "is_name" = some (.ref (He.fAd K ("is_name", none))) := He.glo_ok X G (cd.fact 3 (f := .glo "is_name") rfl)
  obtain ⟨fd_is_spec, F_is_spec⟩ := cd.def_ 4 (d := d_is_spec) rfl
  obtain ⟨oc_is_spec, od_is_spec, kV_is_spec, doc_is_spec, pm_is_spec, an_is_spec, cc_is_spec, ct_is_spec, osl_is_spec, e_is_spec, lk_is_spec, hcd_is_spec, kp_is_spec⟩ := fun_out F_is_spec
  have hg_is_spec : mg "is_spec" = some (.ref (He.fAd K ("is_spec", none))) := He.glo_ok X G (cd.fact 4 (f := .glo "is_spec") rfl)
  obtain ⟨fd_are_specs, F_are_specs⟩ := cd.def_ 5 (d := d_are_specs) rfl
  obtain ⟨oc_are_specs, od_are_specs, kV_are_specs, doc_are_specs, pm_are_specs, an_are_specs, cc_are_specs, ct_are_specs, osl_are_specs, e_are_specs, lk_are_specs, hcd_are_specs, kp_are_specs⟩ := fun_out F_are_specs
  have hg_are_specs : mg "are_specs" = some (.ref (He.fAd K ("are_specs", none))) := He.glo_ok X G (cd.fact 5 (f := .glo "are_specs") rfl)
  obtain ⟨fd_is_entry, F_is_entry⟩ := cd.def_ 6 (d := d_is_entry) rfl
  obtain ⟨oc_is_entry, od_is_entry, kV_is_entry, doc_is_entry, pm_is_entry, an_is_entry, cc_is_entry, ct_is_entry, osl_is_entry, e_is_entry, lk_is_entry, hcd_is_entry, kp_is_entry⟩ := fun_out F_is_entry
  have hg_is_entry : mg "is_entry" = some (.ref (He.fAd K ("is_entry", none))) := He.glo_ok X G (cd.fact 6 (f := .glo "is_entry") rfl)
  obtain ⟨fd_is_stock, F_is_stock⟩ := cd.def_ 7 (d := d_is_stock) rfl
  obtain ⟨oc_is_stock, od_is_stock, kV_is_stock, doc_is_stock, pm_is_stock, an_is_stock, cc_is_stock, ct_is_stock, osl_is_stock, e_is_stock, lk_is_stock, hcd_is_stock, kp_is_stock⟩ := fun_out F_is_stock
  have hg_is_stock : mg "is_stock" = some (.ref (He.fAd K ("is_stock", none))) := He.glo_ok X G (cd.fact 7 (f := .glo "is_stock") rfl)
  obtain ⟨fd_mate_of, F_mate_of⟩ := cd.def_ 8 (d := d_mate_of) rfl
  obtain ⟨oc_mate_of, od_mate_of, kV_mate_of, doc_mate_of, pm_mate_of, an_mate_of, cc_mate_of, ct_mate_of, osl_mate_of, e_mate_of, lk_mate_of, hcd_mate_of, kp_mate_of⟩ := fun_out F_mate_of
  have hg_mate_of : mg "mate_of" = some (.ref (He.fAd K ("mate_of", none))) := He.glo_ok X G (cd.fact 8 (f := .glo "mate_of") rfl)
  obtain ⟨fd_ports_of, F_ports_of⟩ := cd.def_ 9 (d := d_ports_of) rfl
  obtain ⟨oc_ports_of, od_ports_of, kV_ports_of, doc_ports_of, pm_ports_of, an_ports_of, cc_ports_of, ct_ports_of, osl_ports_of, e_ports_of, lk_ports_of, hcd_ports_of, kp_ports_of⟩ := fun_out F_ports_of
  have hg_ports_of : mg "ports_of" = some (.ref (He.fAd K ("ports_of", none))) := He.glo_ok X G (cd.fact 9 (f := .glo "ports_of") rfl)
  obtain ⟨fd_law_digits, F_law_digits⟩ := cd.def_ 10 (d := d_law_digits) rfl
  obtain ⟨oc_law_digits, od_law_digits, kV_law_digits, doc_law_digits, pm_law_digits, an_law_digits, cc_law_digits, ct_law_digits, osl_law_digits, e_law_digits, lk_law_digits, hcd_law_digits, kp_law_digits⟩ := fun_out F_law_digits
  have hg_law_digits : mg "_law_digits" = some (.ref (He.fAd K ("_law_digits", none))) := He.glo_ok X G (cd.fact 10 (f := .glo "_law_digits") rfl)
  obtain ⟨fd_law_take, F_law_take⟩ := cd.def_ 11 (d := d_law_take) rfl
  obtain ⟨oc_law_take, od_law_take, kV_law_take, doc_law_take, pm_law_take, an_law_take, cc_law_take, ct_law_take, osl_law_take, e_law_take, lk_law_take, hcd_law_take, kp_law_take⟩ := fun_out F_law_take
  have hg_law_take : mg "_law_take" = some (.ref (He.fAd K ("_law_take", none))) := He.glo_ok X G (cd.fact 11 (f := .glo "_law_take") rfl)
  obtain ⟨fd_law_words, F_law_words⟩ := cd.def_ 12 (d := d_law_words) rfl
  obtain ⟨oc_law_words, od_law_words, kV_law_words, doc_law_words, pm_law_words, an_law_words, cc_law_words, ct_law_words, osl_law_words, e_law_words, lk_law_words, hcd_law_words, kp_law_words⟩ := fun_out F_law_words
  have hg_law_words : mg "_law_words" = some (.ref (He.fAd K ("_law_words", none))) := He.glo_ok X G (cd.fact 12 (f := .glo "_law_words") rfl)
  obtain ⟨fd_law_stock, F_law_stock⟩ := cd.def_ 13 (d := d_law_stock) rfl
  obtain ⟨oc_law_stock, od_law_stock, kV_law_stock, doc_law_stock, pm_law_stock, an_law_stock, cc_law_stock, ct_law_stock, osl_law_stock, e_law_stock, lk_law_stock, hcd_law_stock, kp_law_stock⟩ := fun_out F_law_stock
  have hg_law_stock : mg "_law_stock" = some (.ref (He.fAd K ("_law_stock", none))) := He.glo_ok X G (cd.fact 13 (f := .glo "_law_stock") rfl)
  obtain ⟨fd_law_name, F_law_name⟩ := cd.def_ 14 (d := d_law_name) rfl
  obtain ⟨oc_law_name, od_law_name, kV_law_name, doc_law_name, pm_law_name, an_law_name, cc_law_name, ct_law_name, osl_law_name, e_law_name, lk_law_name, hcd_law_name, kp_law_name⟩ := fun_out F_law_name
  have hg_law_name : mg "_law_name" = some (.ref (He.fAd K ("_law_name", none))) := He.glo_ok X G (cd.fact 14 (f := .glo "_law_name") rfl)
  obtain ⟨fd_law_spec, F_law_spec⟩ := cd.def_ 15 (d := d_law_spec) rfl
  obtain ⟨oc_law_spec, od_law_spec, kV_law_spec, doc_law_spec, pm_law_spec, an_law_spec, cc_law_spec, ct_law_spec, osl_law_spec, e_law_spec, lk_law_spec, hcd_law_spec, kp_law_spec⟩ := fun_out F_law_spec
  have hg_law_spec : mg "_law_spec" = some (.ref (He.fAd K ("_law_spec", none))) := He.glo_ok X G (cd.fact 15 (f := .glo "_law_spec") rfl)
  obtain ⟨fd_law_right, F_law_right⟩ := cd.def_ 16 (d := d_law_right) rfl
  obtain ⟨oc_law_right, od_law_right, kV_law_right, doc_law_right, pm_law_right, an_law_right, cc_law_right, ct_law_right, osl_law_right, e_law_right, lk_law_right, hcd_law_right, kp_law_right⟩ := fun_out F_law_right
  have hg_law_right : mg "_law_right" = some (.ref (He.fAd K ("_law_right", none))) := He.glo_ok X G (cd.fact 16 (f := .glo "_law_right") rfl)
  obtain ⟨fd_law_text, F_law_text⟩ := cd.def_ 17 (d := d_law_text) rfl
  obtain ⟨oc_law_text, od_law_text, kV_law_text, doc_law_text, pm_law_text, an_law_text, cc_law_text, ct_law_text, osl_law_text, e_law_text, lk_law_text, hcd_law_text, kp_law_text⟩ := fun_out F_law_text
  have hg_law_text : mg "_law_text" = some (.ref (He.fAd K ("_law_text", none))) := He.glo_ok X G (cd.fact 17 (f := .glo "_law_text") rfl)
  obtain ⟨fd_law_odd, F_law_odd⟩ := cd.def_ 18 (d := d_law_odd) rfl
  obtain ⟨oc_law_odd, od_law_odd, kV_law_odd, doc_law_odd, pm_law_odd, an_law_odd, cc_law_odd, ct_law_odd, osl_law_odd, e_law_odd, lk_law_odd, hcd_law_odd, kp_law_odd⟩ := fun_out F_law_odd
  have hg_law_odd : mg "_law_odd" = some (.ref (He.fAd K ("_law_odd", none))) := He.glo_ok X G (cd.fact 18 (f := .glo "_law_odd") rfl)
  obtain ⟨fd_law_bent_spec, F_law_bent_spec⟩ := cd.def_ 19 (d := d_law_bent_spec) rfl
  obtain ⟨oc_law_bent_spec, od_law_bent_spec, kV_law_bent_spec, doc_law_bent_spec, pm_law_bent_spec, an_law_bent_spec, cc_law_bent_spec, ct_law_bent_spec, osl_law_bent_spec, e_law_bent_spec, lk_law_bent_spec, hcd_law_bent_spec, kp_law_bent_spec⟩ := fun_out F_law_bent_spec
  have hg_law_bent_spec : mg "_law_bent_spec" = some (.ref (He.fAd K ("_law_bent_spec", none))) := He.glo_ok X G (cd.fact 19 (f := .glo "_law_bent_spec") rfl)
  obtain ⟨fd_law_bent_row, F_law_bent_row⟩ := cd.def_ 20 (d := d_law_bent_row) rfl
  obtain ⟨oc_law_bent_row, od_law_bent_row, kV_law_bent_row, doc_law_bent_row, pm_law_bent_row, an_law_bent_row, cc_law_bent_row, ct_law_bent_row, osl_law_bent_row, e_law_bent_row, lk_law_bent_row, hcd_law_bent_row, kp_law_bent_row⟩ := fun_out F_law_bent_row
  have hg_law_bent_row : mg "_law_bent_row" = some (.ref (He.fAd K ("_law_bent_row", none))) := He.glo_ok X G (cd.fact 20 (f := .glo "_law_bent_row") rfl)
  obtain ⟨fd_law_bent, F_law_bent⟩ := cd.def_ 21 (d := d_law_bent) rfl
  obtain ⟨oc_law_bent, od_law_bent, kV_law_bent, doc_law_bent, pm_law_bent, an_law_bent, cc_law_bent, ct_law_bent, osl_law_bent, e_law_bent, lk_law_bent, hcd_law_bent, kp_law_bent⟩ := fun_out F_law_bent
  have hg_law_bent : mg "_law_bent" = some (.ref (He.fAd K ("_law_bent", none))) := He.glo_ok X G (cd.fact 21 (f := .glo "_law_bent") rfl)
  obtain ⟨fd_law_told, F_law_told⟩ := cd.def_ 22 (d := d_law_told) rfl
  obtain ⟨oc_law_told, od_law_told, kV_law_told, doc_law_told, pm_law_told, an_law_told, cc_law_told, ct_law_told, osl_law_told, e_law_told, lk_law_told, hcd_law_told, kp_law_told⟩ := fun_out F_law_told
  have hg_law_told : mg "_law_told" = some (.ref (He.fAd K ("_law_told", none))) := He.glo_ok X G (cd.fact 22 (f := .glo "_law_told") rfl)
  obtain ⟨fd_law, F_law⟩ := cd.def_ 23 (d := d_law) rfl
  obtain ⟨oc_law, od_law, kV_law, doc_law, pm_law, an_law, cc_law, ct_law, osl_law, e_law, lk_law, hcd_law, kp_law⟩ := fun_out F_law
  have hg_law : mg "law" = some (.ref (He.fAd K ("law", none))) := He.glo_ok X G (cd.fact 23 (f := .glo "law") rfl)
  have efa : fa = He.fAd K ("law", none) := Value.ref.inj (Option.some.inj (hfa.symm.trans hg_law))
  subst efa
  have hb := FunD.bindsA (ps := ["_law_script"]) F_law fun _ _ _ _ _ _ us hl => match us, hl with | [_], _ => rfl
  refine ⟨fd_law, cs K, spM K (tT K) 1 m_law, fun p hp => ?_, fun p hp => ?_, fun p hp => ?_, fun s v => hb s [v] rfl, fun H a ns hl hbits hH hS => ?_, fun base KB GB TB => ?_⟩
  · obtain ⟨q, hq, rfl⟩ := List.mem_map.mp hp
    exact c.empty q hq
  · obtain ⟨q, hq, rfl⟩ := List.mem_map.mp hp
    exact c.out q hq
  · obtain ⟨q, hq, rfl⟩ := List.mem_map.mp hp
    exact PySem.W.codeHd_of_K X (c.hd q hq)
  · refine law_start good hl hbits (fun P hP => ?_) hS
    obtain ⟨p, hp, rfl⟩ := List.mem_map.mp hP
    exact hH p hp
  · have _ := KB
    have D_is_tuple := ok_is_tuple (P := PySem.Challenge.rw_weave_k01_names_and_stocks.prog) (w := w) (base := base) (T := tT K) x lk_is_tuple hcd_is_tuple kp_is_tuple hg_is_tuple 
    have tb_rises := TB (He.cT K ("rises", none)) (List.mem_map.mpr ⟨("rises", none), by simp [tfs], rfl⟩)
    have ec_rises : (He.cT K ("rises", none)).1 = cc_rises := He.codeOf_eq (K := K) (p := ("rises", none)) lk_rises rfl
    have hT_rises : (He.cT K ("rises", none)).2 ∈ tT K := List.mem_map.mpr ⟨_, List.mem_map.mpr ⟨("rises", none), by simp [tfs], rfl⟩, rfl⟩
    rw [ec_rises] at tb_rises
    have D_rises := ok_rises (P := PySem.Challenge.rw_weave_k01_names_and_stocks.prog) (w := w) (base := base) (T := tT K) (tabB tb_rises) hT_rises x lk_rises hcd_rises kp_rises hg_rises 
    have tb_is_spelled := TB (He.cT K ("is_spelled", none)) (List.mem_map.mpr ⟨("is_spelled", none), by simp [tfs], rfl⟩)
    have ec_is_spelled : (He.cT K ("is_spelled", none)).1 = cc_is_spelled := He.codeOf_eq (K := K) (p := ("is_spelled", none)) lk_is_spelled rfl
    have hT_is_spelled : (He.cT K ("is_spelled", none)).2 ∈ tT K := List.mem_map.mpr ⟨_, List.mem_map.mpr ⟨("is_spelled", none), by simp [tfs], rfl⟩, rfl⟩
    rw [ec_is_spelled] at tb_is_spelled
    have D_is_spelled := ok_is_spelled (P := PySem.Challenge.rw_weave_k01_names_and_stocks.prog) (w := w) (base := base) (T := tT K) (tabB tb_is_spelled) hT_is_spelled x lk_is_spelled hcd_is_spelled kp_is_spelled hg_is_spelled 
    have D_is_name := ok_is_name (P := PySem.Challenge.rw_weave_k01_names_and_stocks.prog) (w := w) (base := base) (T := tT K) x lk_is_name hcd_is_name kp_is_name hg_is_name D_is_spelled
    have D_is_spec := ok_is_spec (P := PySem.Challenge.rw_weave_k01_names_and_stocks.prog) (w := w) (base := base) (T := tT K) x lk_is_spec hcd_is_spec kp_is_spec hg_is_spec D_is_tuple D_is_name
    have tb_are_specs := TB (He.cT K ("are_specs", none)) (List.mem_map.mpr ⟨("are_specs", none), by simp [tfs], rfl⟩)
    have ec_are_specs : (He.cT K ("are_specs", none)).1 = cc_are_specs := He.codeOf_eq (K := K) (p := ("are_specs", none)) lk_are_specs rfl
    have hT_are_specs : (He.cT K ("are_specs", none)).2 ∈ tT K := List.mem_map.mpr ⟨_, List.mem_map.mpr ⟨("are_specs", none), by simp [tfs], rfl⟩, rfl⟩
    rw [ec_are_specs] at tb_are_specs
    have D_are_specs := ok_are_specs (P := PySem.Challenge.rw_weave_k01_names_and_stocks.prog) (w := w) (base := base) (T := tT K) (tabB tb_are_specs) hT_are_specs x lk_are_specs hcd_are_specs kp_are_specs hg_are_specs D_is_spec
    have D_is_entry := ok_is_entry (P := PySem.Challenge.rw_weave_k01_names_and_stocks.prog) (w := w) (base := base) (T := tT K) x lk_is_entry hcd_is_entry kp_is_entry hg_is_entry D_is_tuple D_is_name D_are_specs
    have tb_is_stock := TB (He.cT K ("is_stock", none)) (List.mem_map.mpr ⟨("is_stock", none), by simp [tfs], rfl⟩)
    have ec_is_stock : (He.cT K ("is_stock", none)).1 = cc_is_stock := He.codeOf_eq (K := K) (p := ("is_stock", none)) lk_is_stock rfl
    have hT_is_stock : (He.cT K ("is_stock", none)).2 ∈ tT K := List.mem_map.mpr ⟨_, List.mem_map.mpr ⟨("is_stock", none), by simp [tfs], rfl⟩, rfl⟩
    rw [ec_is_stock] at tb_is_stock
    have D_is_stock := ok_is_stock (P := PySem.Challenge.rw_weave_k01_names_and_stocks.prog) (w := w) (base := base) (T := tT K) (tabB tb_is_stock) hT_is_stock x lk_is_stock hcd_is_stock kp_is_stock hg_is_stock D_rises D_is_entry
    have D_mate_of := ok_mate_of (P := PySem.Challenge.rw_weave_k01_names_and_stocks.prog) (w := w) (base := base) (T := tT K) x lk_mate_of hcd_mate_of kp_mate_of hg_mate_of 
    have D_ports_of := ok_ports_of (P := PySem.Challenge.rw_weave_k01_names_and_stocks.prog) (w := w) (base := base) (T := tT K) x lk_ports_of hcd_ports_of kp_ports_of hg_ports_of 
    have D_law_digits := ok_law_digits (P := PySem.Challenge.rw_weave_k01_names_and_stocks.prog) (w := w) (base := base) (T := tT K) x lk_law_digits hcd_law_digits kp_law_digits hg_law_digits 
    have D_law_take := ok_law_take (P := PySem.Challenge.rw_weave_k01_names_and_stocks.prog) (w := w) (base := base) (T := tT K) x lk_law_take hcd_law_take kp_law_take hg_law_take 
    have D_law_words := ok_law_words (P := PySem.Challenge.rw_weave_k01_names_and_stocks.prog) (w := w) (base := base) (T := tT K) x lk_law_words hcd_law_words kp_law_words hg_law_words D_law_take
    have D_law_stock := ok_law_stock (P := PySem.Challenge.rw_weave_k01_names_and_stocks.prog) (w := w) (base := base) (T := tT K) x lk_law_stock hcd_law_stock kp_law_stock hg_law_stock D_law_take D_law_words
    have D_law_name := ok_law_name (P := PySem.Challenge.rw_weave_k01_names_and_stocks.prog) (w := w) (base := base) (T := tT K) x lk_law_name hcd_law_name kp_law_name hg_law_name 
    have D_law_spec := ok_law_spec (P := PySem.Challenge.rw_weave_k01_names_and_stocks.prog) (w := w) (base := base) (T := tT K) x lk_law_spec hcd_law_spec kp_law_spec hg_law_spec D_law_name
    have D_law_right := ok_law_right (P := PySem.Challenge.rw_weave_k01_names_and_stocks.prog) (w := w) (base := base) (T := tT K) x lk_law_right hcd_law_right kp_law_right hg_law_right D_law_name D_law_spec
    have D_law_text := ok_law_text (P := PySem.Challenge.rw_weave_k01_names_and_stocks.prog) (w := w) (base := base) (T := tT K) x lk_law_text hcd_law_text kp_law_text hg_law_text D_law_take
    have D_law_odd := ok_law_odd (P := PySem.Challenge.rw_weave_k01_names_and_stocks.prog) (w := w) (base := base) (T := tT K) x lk_law_odd hcd_law_odd kp_law_odd hg_law_odd D_law_take
    have D_law_bent_spec := ok_law_bent_spec (P := PySem.Challenge.rw_weave_k01_names_and_stocks.prog) (w := w) (base := base) (T := tT K) x lk_law_bent_spec hcd_law_bent_spec kp_law_bent_spec hg_law_bent_spec D_law_take D_law_text D_law_odd
    have D_law_bent_row := ok_law_bent_row (P := PySem.Challenge.rw_weave_k01_names_and_stocks.prog) (w := w) (base := base) (T := tT K) x lk_law_bent_row hcd_law_bent_row kp_law_bent_row hg_law_bent_row D_law_take D_law_bent_spec D_law_odd D_law_text
    have D_law_bent := ok_law_bent (P := PySem.Challenge.rw_weave_k01_names_and_stocks.prog) (w := w) (base := base) (T := tT K) x lk_law_bent hcd_law_bent kp_law_bent hg_law_bent D_law_take D_law_bent_row D_law_odd
    have D_law_told := ok_law_told (P := PySem.Challenge.rw_weave_k01_names_and_stocks.prog) (w := w) (base := base) (T := tT K) x lk_law_told hcd_law_told kp_law_told hg_law_told 
    rw [e_law]
    exact fn_law x lk_law hcd_law D_law_stock D_law_digits D_law_told D_is_stock D_ports_of D_mate_of D_law_take D_law_text D_law_bent_spec D_law_bent D_law_odd D_law_right D_law_spec D_is_name D_law_name D_is_spec
end
end K01
open PySem PySem.W PySem.Calls PyProof.Rows
theorem K01.fin (good : ∀ (o : Sh.Ob) (ns : List Int), o.seq = some (ns.map Sh.Vl.int) → ns.length ≤ 63 → (∀ z ∈ ns, Builtin.Int.intBits z ≤ 1048576) → ∃ M, K01.m_law [.ref 0] [o] = some (.bl true, M)) : PySem.Challenge.rw_weave_k01_names_and_stocks.Holds := by
  w_on; o_law
  refine HandSHeadRun.head_any (r := OpenLaw.row PySem.Challenge.rw_weave_k01_names_and_stocks) (q := view (OpenLaw.row PySem.Challenge.rw_weave_k01_names_and_stocks).prog [30]) (H := K01.hk) (ob := K01.ob) (M := 4000) (loose := K01.loose) (d := HandSHeadRun.topDef (OpenLaw.row PySem.Challenge.rw_weave_k01_names_and_stocks).prog 30) (kwd := []) K01.ob_eq
    (by kernel_rfl) (fun s => by kernel_rfl) K01.run (by kernel_rfl) (by kernel_rfl) (by kernel_rfl) (by rfl) (by first | assumption | decide +kernel) (by decide +kernel) ⟨rfl, rfl, rfl, rfl, rfl, by decide +kernel⟩ ?hw ?hc
  case hw => w_witness2
  case hc =>
    refine LamX.walk_ofTsE (l := PySem.Challenge.rw_weave_k01_names_and_stocks) (n := 63) (k := 10) (x := "_law_script") (CX := fun _ => L2.CX0) rfl (by decide) (by kernel_rfl) ⟨rfl, by decide, by decide⟩ ?F (fun _ _ _ _ _ z => z)
    intro w mg fa h Y G hmg0
    obtain ⟨K, KX, c⟩ := Y
    have hmg : mg ("law" : PySem.Str) = some (.ref fa) := by
      have e : (HandSHeadRun.topDef (OpenLaw.row PySem.Challenge.rw_weave_k01_names_and_stocks).prog 30).name = ("law" : PySem.Str) := by kernel_rfl
      rw [← e]
      exact hmg0
    exact ⟨K, KX, K01.lawAt KX G c fa hmg good⟩
set_option maxRecDepth 100000 in
theorem PySem.Challenge.cw_weave_k01_names_and_stocks_holds : PySem.Challenge.rw_weave_k01_names_and_stocks.Holds := by
  exact (K01.fin fun _ _ ho hl _ => K01.good ho hl)
