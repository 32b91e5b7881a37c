import PyProof.Rows.All
import Wide.All
import OpenK.AllK
import Wide.FinOn
import HandS.ForMost
import HandS.GenList
import HandS.AnyAll
import HandS.EndTab
import HandS.SortInts
import HandS.WordsExc
import HandS.TryOnly
import HandS.Flow
import HandS.Zip
import HandS.Sort
import HandS.TupAny
import HandS.TupMul
import HandS.Conv
import HandS.FStr
import HandS.TupLe
import HandS.Steps
import HandS.Text
import PyProof.CallFns
import HandS.Iter
import HandS.Walk
import HandS.ExcOwn
import HandS.ExcIs
import HandS.RaiseMore
import HandS.TryMany
import KE.KNest
import HandS.List
import PyProof.Draws
import HandS.IsInst
import HandS.Deep
import HandS.Replace
import HandS.Style
import HandS.WideBits
import KE.GoesNew
import KE.GoesMore
import HandS.Gcd
import KE.DataCmp
import HandS.DictComp
import PyProof.ReprLen
import PyProof.StrLawsIn
import PySem.Challenge.RW_leafturner_k69_graphs_of_levels
set_option Elab.async false
set_option linter.all false
set_option maxRecDepth 100000
set_option maxHeartbeats 4000000
namespace Z
open PySem PySem.Spec PyProof.Rows L2 GenW

/-! ## all(element for target in walked): any element that gives a truth value -/

/-- the frame of a generator expression, seen as a place where code runs -/
abbrev gcx (X : Cx) (s : Shared) (H : Hp) (ge : Env) (B : Around) (fp : List Addr) : Cx :=
  { X with A := B, s_0 := s, H_0 := H, env := ge, outer := X.stack, stack := ge :: X.stack, ex := fp, fn := fun _ => false, pn := [], xe := fun _ _ => False }
/-- the same up to the generators' table -/
theorem inv_same {X : Cx} {pins : List (Addr × Obj)} {σ : L2.St} {H : Hp} {s s' : Shared} (I : Inv X pins σ H s) (h1 : s'.heap = s.heap) (h2 : s'.os = s.os) (h3 : AllBare s'.gens) : Inv X pins σ H s' := by
  obtain ⟨hh, g, d, t, o⟩ := s'
  have e1 : hh = s.heap := h1
  have e2 : o = s.os := h2
  subst e1 e2
  exact I.step (h' := s.heap) (H' := H) (g' := g) (t' := t) (d' := d) (ch := []) (fun b hb => by cases hb) (fun b o _ _ _ e _ => e) (fun b o _ _ _ e _ => ⟨o.slots, e⟩) (fun _ _ _ _ n => n) (fun b o _ e => ⟨o, e⟩)
    (fun _ _ e => e) (fun _ _ _ e => e) (fun b ps e => ⟨#[], by rw [e]; simp⟩) (fun m hm => hm) I.hok h3

section
variable {X : Cx} {pins : List (Addr × Obj)} {σ : L2.St} {H : Hp} {s : Shared}

theorem gen_start {scope : Scope} {own : List (Str × Nat)} {fp : List Addr} {B : Around} {code : Value} {it : Value} {h' : Heap} {go : Obj} {g' : Array GenState} {t' : Nat}
    (I : Inv X pins σ H s) (ok : BlkOk X.N X.env.scope scope own) (hN : X.N.Nodup) (hcell : ∀ y ∈ scope.names, y.2 ≠ .cell) (hfp : ∀ b ∈ fp, FpOk X pins H b ∧ b < s.heap.objs.size)
    (hB1 : B.handled = none) (hB2 : B.frames = some (genEnv scope (cloFrom X.env.cells scope.names []) s.heap.objs.size code builtinsNs X.env :: X.stack)) (hg : AllBare g')
    (hn : h'.Ns s.heap.objs.size (fun y => if y = ".0" then some it else none)) (hs : Heap.SameBut s.heap.objs.size (s.heap.push { cls := .type "frame", data := .dict #[] }) h')
    (hgo : ∀ v, go.data ≠ .cell v) (hgf : go.isFreed = false) (hdot : (".0" : Str) ∉ X.N) :
    Inv (gcx X s H (genEnv scope (cloFrom X.env.cells scope.names []) s.heap.objs.size code builtinsNs X.env) B fp) [(h'.objs.size, go)] (wipe σ (own.map (·.2))) H { s with heap := h'.push go, gens := g', toks := t' } := by
  have sz : h'.objs.size = s.heap.objs.size + 1 := by rw [hs.1, Heap.size_push]
  have kp : ∀ b o, s.heap.get? b = some o → (h'.push go).get? b = some o := fun b o e => Heap.get?_push_of_some _ (hs.extBut b o (Nat.ne_of_lt (Heap.lt_size e)) (Heap.get?_push_of_some _ e))
  have hfree : ∀ y ∈ scope.names, y.2 = .free → ∃ c, X.env.cells.lookup y.1 = some c := fun y hy e => by
    rcases ok.free y hy e with k | k
    · exact I.ok.has _ (.inl k)
    · exact I.ok.has _ (.inr k)
  generalize hge : genEnv scope (cloFrom X.env.cells scope.names []) s.heap.objs.size code builtinsNs X.env = ge at *
  have eL : ge.locals = s.heap.objs.size := by rw [← hge]; rfl
  have eC : ge.cells = cloFrom X.env.cells scope.names [] := by rw [← hge]; rfl
  have eS : ge.scope = scope := by rw [← hge]; rfl
  have cm : ∀ {y c}, ge.cells.lookup y = some c → X.env.cells.lookup y = some c ∧ c < s.heap.objs.size := fun {y c} e => by
    rw [eC] at e
    rcases cloFrom_mem (PySem.mem_of_lookup e) with hm | ⟨h1, rfl⟩
    · cases hm
    · obtain ⟨c, hc⟩ := hfree _ h1 rfl
      rw [hc]
      obtain ⟨w, z⟩ := I.cell _ _ hc
      exact ⟨rfl, z.lt⟩
  have look : ∀ {y}, scope.names.lookup y = some .free → ∃ c, ge.cells.lookup y = some c := fun {y} hl => by
    obtain ⟨c', e'⟩ := mem_lookup (cloFrom_has (cells := X.env.cells) (acc := []) (PySem.mem_of_lookup hl))
    exact ⟨c', by rw [eC]; exact e'⟩
  have okG : (gcx X s H ge B fp).Ok := by
    refine ⟨I.ok.mod, ?_, ?_, ?_, ?_, ?_, ?_, ?_, fun _ => hB1, hB2, .inr ⟨rfl, ?_⟩, ?_, I.bs, Nat.le_trans I.ok.bsz I.sz, ?_, ?_, I.stack, I.stkFree⟩
    · show ge.scope.kind = _
      rw [eS]; exact ok.kind
    · show ge.globals = _
      rw [← hge]; exact I.ok.glob
    · show ge.builtins = _
      rw [← hge]; rfl
    · show s.heap.objs.size ≤ ge.locals
      rw [eL]; exact Nat.le_refl _
    · exact fun y z c e1 e2 => I.ok.inj y z c (cm e1).1 (cm e2).1
    · intro y hy
      have hy' : scope.names.lookup y = some .cell ∨ scope.names.lookup y = some .free := by
        have q : ge.scope.names.lookup y = some .cell ∨ ge.scope.names.lookup y = some .free := hy
        rw [eS] at q
        exact q
      rcases hy' with q | q
      · exact (hcell _ (PySem.mem_of_lookup q) rfl).elim
      · exact look q
    · exact fun y c z => absurd z Bool.false_ne_true
    · show ge.frame = some ge.locals
      rw [← hge]; rfl
    · intro b hb
      refine ⟨?_, fun y c e z => (hfp b hb).1.2.2.2.2.1 y c (cm e).1 z⟩
      show b ≠ ge.locals
      rw [eL]; exact Nat.ne_of_lt (hfp b hb).2
    · intro b o e hb
      rcases (hfp b hb).1.2.2.2.1 with z | z
      · exact I.ok.noex b o e z
      · exact absurd (Nat.lt_of_lt_of_le (Heap.lt_size e) (Nat.le_trans I.ok.bsz z)) (Nat.lt_irrefl _)
    · intro b hb z
      rcases List.mem_cons.mp (I.stkSub b z) with z | z
      · exact (hfp b hb).1.2.1 z
      · exact (hfp b hb).1.2.2.1 z
  refine ⟨okG, rfl, hg, Un.kept kp, ⟨_, (by show Heap.Ns _ ge.locals _; rw [eL]; exact hn.push _), fun i y av e1 e2 e3 => ?_⟩, fun y c e => ?_, ?_, fun y c e => I.freeC y c (cm e).1, fun p hp => ?_, I.hok.kept kp, by rw [wipe_length]; exact I.len⟩
  · obtain ⟨e2, hne⟩ := wipe_some e2
    have e3 : scope.names.lookup y = some .local ∨ scope.names.lookup y = some .cell ∨ scope.names.lookup y = some .free := by
      have q : ge.scope.names.lookup y = some .local ∨ ge.scope.names.lookup y = some .cell ∨ ge.scope.names.lookup y = some .free := e3
      rw [eS] at q
      exact q
    have no : ∀ k, scope.names.lookup y = some k → ¬ (k = .local ∨ k = .cell) := fun k hk hh => by
      rcases ok.own _ (PySem.mem_of_lookup hk) hh with e' | e'
      · obtain ⟨p, hp, hpy⟩ := List.mem_map.mp e'
        have e3 := ok.ix p hp
        have hpy : p.1 = y := hpy
        rw [hpy] at e3
        exact hne (List.mem_map.mpr ⟨p, hp, nodup_ix hN e3 e1⟩)
      · exact e' (List.mem_of_getElem? e1)
    have hfr : scope.names.lookup y = some .free := by
      rcases e3 with q | q | q
      · exact (no _ q (.inl rfl)).elim
      · exact (no _ q (.inr rfl)).elim
      · exact q
    obtain ⟨m, hm, hl⟩ := I.loc
    have hvis : Vis X.env.scope y := (ok.free _ (PySem.mem_of_lookup hfr) rfl).elim (fun k => .inr (.inl k)) (fun k => .inr (.inr k))
    obtain ⟨w, r, q⟩ := hl i y av e1 e2 hvis
    refine ⟨w, r, .inr ⟨.inr (by show ge.scope.names.lookup y = _; rw [eS]; exact hfr), ?_⟩⟩
    obtain ⟨c, h1⟩ := look hfr
    rcases q with ⟨k, _⟩ | ⟨_, c', e', z⟩
    · have k : X.env.scope.names.lookup y = some .local := k
      rcases ok.free _ (PySem.mem_of_lookup hfr) rfl with k' | k' <;> rw [show X.env.scope.names.lookup y = _ from k'] at k <;> cases k
    · rw [(cm h1).1] at e'; cases e'
      exact ⟨c, h1, z.keeps kp⟩
  · obtain ⟨w, z⟩ := I.cell y c (cm e).1
    exact ⟨w, z.keeps kp⟩
  · show H ge.locals = none
    rw [eL]; exact I.hok.fresh (Nat.le_refl _)
  · have e : p = (h'.objs.size, go) := by simpa using hp
    subst e
    refine ⟨Heap.get?_push_size _ hgf, I.hok.fresh (by show s.heap.objs.size ≤ h'.objs.size; omega), ?_, fun hm => ?_, hgo⟩
    · show h'.objs.size ≠ ge.locals
      rw [eL]; omega
    · rcases List.mem_cons.mp (I.stkSub h'.objs.size hm) with z | z
      · have h1 : X.env.locals < s.heap.objs.size := I.lt
        have h2 : h'.objs.size = X.env.locals := z
        exact absurd h1 (by rw [← h2, sz]; exact Nat.not_lt_of_le (Nat.le_succ _))
      · exact I.nofs (a := h'.objs.size) (by omega) z
end

/-- the table of a def's code object stands, it may have grown -/
def TabOk (H : Hp) (P : Addr) : Prop := GxR.TabG H P
def Grown (P : Addr) (H H' : Hp) : Prop := GxR.Tabbed P H H'
/-- what a turn asks -/
def AllTurns (J : It) (g : TG) (te : TE) (vs : List Nat) (σ : L2.St) (Q : VK) (W : Nat → Nat → Hp → Prop) : Prop := ∀ i m H, W i m H →
  (J.stop i H ∧ Q (.bl true) H) ∨ (J.go i H ∧ ∀ x H', J.yld i H x H' → g x (wipe σ vs) H' fun σ2 H3 => wipe σ2 vs = wipe σ vs ∧ te σ2 H3 fun y H4 =>
    ∃ b, y = .bl b ∧ (b = true → ∃ m', m' < m ∧ W (i + 1) m' H4) ∧ (b = false → Q (.bl false) H4))
/-- all(elt for tg in walked): W by the turn and a measure -/
def tAll (wi : TI) (g : TG) (te : TE) (vs : List Nat) (P : Addr) : TE := fun σ H Q => wi σ H fun J H1 => TabOk H1 P ∧ ∀ H2, Grown P H1 H2 → ∃ W : Nat → Nat → Hp → Prop, (∃ m, W 0 m H2) ∧ AllTurns J g te vs σ Q W

abbrev GE (elt tg iter : Expr) (scope : Scope) (pos : Pos) : Expr := .GeneratorExp elt [⟨tg, iter, [], 0⟩] scope pos

section
variable {X : Cx} {s₁ : Shared} {H₁ : Hp} {ge : Env} {fp : List Addr} {elt tg iter : Expr} {scope : Scope} {pos : Pos} {it a : Addr} {go : Obj} {σ : L2.St} {vs : List Nat} {J : It} {g : TG} {te : TE} {Q : VK} {W : Nat → Nat → Hp → Prop} {tn : Nat → Heap → Prop} {B : Around}
/-- the around of the generator's code -/
abbrev gar (B : Around) (elt tg iter : Expr) (scope : Scope) (pos : Pos) (it : Addr) (ge : Env) : Around := B.over (.compLoop (GE elt tg iter scope pos) 0 (.ref it) .none ge) []
abbrev gC (X : Cx) (s₁ : Shared) (H₁ : Hp) (ge : Env) (fp : List Addr) (B : Around) (elt tg iter : Expr) (scope : Scope) (pos : Pos) (it : Addr) : Cx := gcx X s₁ H₁ ge (gar B elt tg iter scope pos it ge) fp
/-- the end of its run -/
def gEnd (X : Cx) (s₁ : Shared) (H₁ : Hp) (ge : Env) (fp : List Addr) (B : Around) (elt tg iter : Expr) (scope : Scope) (pos : Pos) (it a : Addr) (go : Obj) (σ : L2.St) (vs : List Nat) (Q : VK) (s' : Shared) : Prop :=
  ∃ H', Inv (gC X s₁ H₁ ge fp B elt tg iter scope pos it) [(a, go)] (wipe σ vs) H' s' ∧ Q (.bl true) H'
/-- an item is handed out -/
def gItem (X : Cx) (s₁ : Shared) (H₁ : Hp) (ge : Env) (fp : List Addr) (B : Around) (elt tg iter : Expr) (scope : Scope) (pos : Pos) (it a : Addr) (go : Obj) (σ : L2.St) (vs : List Nat) (Q : VK) : Protocol := fun _ _ v s kap =>
  ∃ b H', v = .bool b ∧ Inv (gC X s₁ H₁ ge fp B elt tg iter scope pos it) [(a, go)] (wipe σ vs) H' s ∧ (b = false → Q (.bl false) H') ∧ (b = true → ∀ s' : Shared, s'.heap = s.heap → s'.os = s.os → AllBare s'.gens → kap (.send .none) s')

theorem gen_loop (hc : X.calm = true) (T : Turn X.prog X.w X.K tg J fp it tn) (hco : ge.scope.isCoroutine = false) (haf : ∀ b ∈ fp, b ≠ a)
    (pg : PG (gC X s₁ H₁ ge fp B elt tg iter scope pos it) tg g) (pe : PE (gC X s₁ H₁ ge fp B elt tg iter scope pos it) elt te) (turn : AllTurns J g te vs σ Q W) :
    ∀ (n i m : Nat) (H : Hp) (s₀ s : Shared), m < n → W i m H → Inv (gC X s₁ H₁ ge fp B elt tg iter scope pos it) [(a, go)] (wipe σ vs) H s → tn i s.heap → (∀ b ∈ fp, H b = none) →
      Seg (model X.prog X.w) B (fun _ _ r s' => r = .ok .next ∧ gEnd X s₁ H₁ ge fp B elt tg iter scope pos it a go σ vs Q s') (gItem X s₁ H₁ ge fp B elt tg iter scope pos it a go σ vs Q) n s₀
        (.compLoop (GE elt tg iter scope pos) 0 (.ref it) .none ge) ((model X.prog X.w).den (.compLoop (GE elt tg iter scope pos) 0 (.ref it) .none ge)) [] s := by
  have stat : ∀ {σ' : L2.St} {H' : Hp} {s' : Shared}, Inv (gC X s₁ H₁ ge fp B elt tg iter scope pos it) [(a, go)] σ' H' s' → (∀ b ∈ fp, H' b = none) → ∀ b ∈ fp, FpOk (gC X s₁ H₁ ge fp B elt tg iter scope pos it) [(a, go)] H' b :=
    fun {σ' H' s'} I' hn b hb => by
      refine ⟨hn b hb, (I'.ok.exf b hb).1, I'.ok.exfs b hb, .inl hb, fun x c e => (I'.ok.exf b hb).2 x c e, fun p hp => ?_⟩
      have e : p = (a, go) := by simpa using hp
      subst e
      exact (haf b hb).symm
  intro n
  induction n with
  | zero => intro i m H s₀ s hm; exact absurd hm (Nat.not_lt_zero _)
  | succ n ih =>
    intro i m H s₀ s hm w0 I st hn
    show Seg _ _ _ _ _ s₀ _ ((compTurn (GE elt tg iter scope pos) 0 (.ref it) .none ge).onRaise (leaving ge)) [] s
    rw [compTurn_gen, Sem.onRaise_eq_wrap] ; refine seg_bind_wrap (wpAny_standAt ?_)
    rcases turn i m H w0 with ⟨stop, qq⟩ | ⟨go1, step⟩
    · refine seg_bind_wrap (thnF (T.done (gC X s₁ H₁ ge fp B elt tg iter scope pos it) rfl rfl rfl hc i _ s _ H (fun _ _ => False) I (stat I hn) st stop) fun r s2 hr => ?_)
      obtain ⟨rfl, I2⟩ := hr
      exact seg_end (.ok .next) ⟨rfl, H, I2, qq⟩
    · refine seg_bind_wrap (thnF (T.item (gC X s₁ H₁ ge fp B elt tg iter scope pos it) rfl rfl rfl hc i _ s _ H (fun _ _ => False) I (stat I hn) st go1) fun r s2 hr => ?_)
      obtain ⟨u, rfl, hu⟩ := hr
      refine seg_bind_wrap (thnF hu fun _ s3 h3 => ?_)
      obtain ⟨x, H3, I3, r3, y3, st3, n3⟩ := h3
      have I3' := I3.pinned (stat I3 n3) (T.obj _ _ st3)
      refine seg_bind_wrap (thnF (pg.run _ s3 _ H3 x u _ I3' r3 (step x H3 y3)) fun _ s4 h4 => ?_)
      obtain ⟨σ4, H4, I4, hw4, q4⟩ := h4
      simp only [List.forIn_nil]
      refine seg_bind_wrap (wpAny_pure ?_)
      simp only [if_true]
      have hy : ∀ v, yieldOut ge v = yieldValue v := fun v => by unfold yieldOut; rw [hco]; rfl
      simp only [hy]
      rw [Sem.bind_eq_wrap', Sem.bind_eq_wrap', Sem.wrap_wrap, Sem.wrap_wrap] ; refine seg_wrap (thnF (pe.run _ s4 σ4 H4 _ I4 q4) fun v s5 h5 => ?_)
      obtain ⟨y, H5, I5, r5, b, rfl, k1, k0⟩ := h5
      have ev : v = Value.bool b := r5
      subst ev
      have hl : (wipe σ vs).length = σ4.length := by rw [← hw4, wipe_length]
      have I6 : Inv (gC X s₁ H₁ ge fp B elt tg iter scope pos it) [(a, go)] (wipe σ vs) H5 s5 := (I5.unpinned (pins := [(a, go)])).weak hl fun j v e => by
        rw [← hw4] at e
        exact (wipe_some e).1
      have pin' : ∀ b ∈ fp, ∀ o, s3.heap.get? b = some o → s5.heap.get? b = some o ∧ H5 b = none := fun b hb o e =>
        let z := I5.pin (b, o) (List.mem_append_right _ (List.mem_append_right _ (mem_pinsAt hb e)))
        ⟨z.1, z.2.1⟩
      have st5 : tn (i + 1) s5.heap := T.keep _ _ _ st3 fun b hb o e => (pin' b hb o e).1
      have n5 : ∀ b ∈ fp, H5 b = none := fun b hb => by
        obtain ⟨o, e, _⟩ := T.obj _ _ st3 b hb
        exact (pin' b hb o e).2
      refine seg_at (seg_yield rfl rfl rfl ⟨b, H5, rfl, I6, k0, fun hb s' e1 e2 e3 => ?_⟩)
      obtain ⟨m', hm', w'⟩ := k1 hb
      exact seg_again rfl (ih (i + 1) m' H5 s' s' (by omega) w' (inv_same I6 e1 e2 e3) (by rw [e1]; exact st5) n5)
theorem gen_begin (hc : X.calm = true) (T : Turn X.prog X.w X.K tg J fp it tn) (hco : ge.scope.isCoroutine = false) (haf : ∀ b ∈ fp, b ≠ a)
    (pg : PG (gC X s₁ H₁ ge fp B elt tg iter scope pos it) tg g) (pe : PE (gC X s₁ H₁ ge fp B elt tg iter scope pos it) elt te) (turn : AllTurns J g te vs σ Q W) {m : Nat} {H : Hp} {s₀ s : Shared} (w0 : W 0 m H)
    (I : Inv (gC X s₁ H₁ ge fp B elt tg iter scope pos it) [(a, go)] (wipe σ vs) H s) (st : tn 0 s.heap) (hn : ∀ b ∈ fp, H b = none) :
      Seg (model X.prog X.w) B (fun _ _ r s' => r = .ok .next ∧ gEnd X s₁ H₁ ge fp B elt tg iter scope pos it a go σ vs Q s') (gItem X s₁ H₁ ge fp B elt tg iter scope pos it a go σ vs Q) (m + 1) s₀
        (.compStart (GE elt tg iter scope pos) 0 (.ref it) .none ge) ((model X.prog X.w).den (.compStart (GE elt tg iter scope pos) 0 (.ref it) .none ge)) [] s := by
  have loop := gen_loop (s₁ := s₁) (H₁ := H₁) (go := go) hc T hco haf pg pe turn (m + 1) 0 m H s₀ s (Nat.lt_succ_self _) w0 I st hn
  show Seg _ _ _ _ _ s₀ _ ((compStart (GE elt tg iter scope pos) 0 (.ref it) .none ge).onRaise (leaving ge)) [] s
  unfold compStart ; rw [Sem.onRaise_eq_wrap] ; show Seg _ _ _ _ _ s₀ _ ((ask >>= _).wrap _ _ _ _) [] s
  refine seg_bind_wrap (wpAny_askSetting ?_) ; split
  · exact seg_again rfl loop
  · first
      | (refine seg_bind_wrap (wpAny_rule ?_) ; exact seg_bind_wrap (wpAny_standAt (seg_bind_wrap (T.self _ 0 s _ _ st (seg_again rfl loop)))))
      | (refine seg_bind_wrap (wpAny_rule ?_) ; show Seg _ _ _ _ _ s₀ _ ((standAt iter.pos >>= _).wrap _ _ _ _) [] s ; exact seg_bind_wrap (wpAny_standAt (seg_bind_wrap (T.self _ 0 s _ _ st (seg_again rfl loop)))))
end
end Z

set_option Elab.async false
set_option linter.all false
set_option maxRecDepth 100000
set_option maxHeartbeats 4000000
namespace Z
open PySem PySem.Spec PyProof.Rows L2 GenW
section
variable {P : Program} {w : World} {A : Around} {a : Addr} {g : Nat} {Rr : Result → Shared → Prop} {fin : Shared → Prop} {item : Protocol}
/-- the loop of all(..) over a generator expression; the end and what is handed out, as gEnd and gItem tell them, in short -/
theorem all_turns (hh : A.handled = none) (hroom : A.depth < recursionLimit)
    (hItem : ∀ n s₀ v s kap, item n s₀ v s kap → (∃ b, v = .bool b) ∧ s.heap.IsGen a g ∧ s.heap.NoLimit ∧ AllBare s.gens)
    (hMore : ∀ n s₀ s kap, item n s₀ (.bool true) s kap → ∀ s' : Shared, s'.heap = s.heap → s'.os = s.os → AllBare s'.gens → kap (.send .none) s')
    (hStop : ∀ n s₀ s kap gs, item n s₀ (.bool false) s kap → gs.bare = true → Rr (.ok (.ret (.bool false))) (s.setGen g gs))
    (hEnd : ∀ s, fin s → ∀ h', (∀ b o, s.heap.get? b = some o → h'.get? b = some o) → Rr (.ok (.ret (.bool true))) { s.setGen g .finished with heap := h' }) :
    ∀ (n : Nat) (s : Shared), s.heap.IsGen a g → s.heap.NoLimit → (∃ gs, s.gens[g]? = some gs ∧ gs.Goes (model P w) A.in1.in1 (fun _ _ r s' => r = .ok .next ∧ fin s') item n (.send .none) (s.setGen g .running)) →
      codeAny (model P w) A (.builtin "all.loop" ⟨[.ref a], []⟩) Rr s := by
  intro n
  induction n with
  | zero =>
    intro s hg hl ⟨gs, hgs, hgo⟩
    refine codeAny_builtin PySem.F.entry_all_loop ?_ ; rw [Around.under_plainId PySem.F.plain_all_loop _] ; show wpAny _ A.in1 (pyNext (.ref a) >>= _) _ _ s
    refine wpAny_bind (wpAny_pyNext_genexpQ (A := A.in1) (P := fun _ _ s' => fin s') hh hl hroom hg hgs hgo (fun v s₁ gs' hb hv => ?_) (fun s₁ hp h' hk => ?_))
    · obtain ⟨⟨b, rfl⟩, _, _, _⟩ := hItem _ _ _ _ _ hv
      cases b with
      | true => exact (hMore _ _ _ _ hv s₁ rfl rfl (hItem _ _ _ _ _ hv).2.2.2).elim
      | false =>
        refine wpAny_bind (wpAny_holding (wpAny_truthy_bool ?_)) ; refine wpAny_bind (wpAny_letGo ?_)
        simp only [Bool.false_eq_true, if_false] ; exact wpAny_bind (wpAny_rule (wpAny_pure (hStop _ _ _ _ _ hv hb)))
    · exact wpAny_bind (wpAny_rule (wpAny_pure (hEnd _ hp h' hk)))
  | succ n ih =>
    intro s hg hl ⟨gs, hgs, hgo⟩
    have hgl : g < s.gens.size := (Array.getElem?_eq_some_iff.mp hgs).1
    refine codeAny_builtin PySem.F.entry_all_loop ?_ ; rw [Around.under_plainId PySem.F.plain_all_loop _] ; show wpAny _ A.in1 (pyNext (.ref a) >>= _) _ _ s
    refine wpAny_bind (wpAny_gsz (n := g + 1) hgl (wpAny_pyNext_genexpQ (A := A.in1) (P := fun _ _ s' => fin s') hh hl hroom hg hgs hgo (fun v s₁ gs' hb hv => ?_) (fun s₁ hp h' hk => ?_)))
    · intro hsz
      obtain ⟨⟨b, rfl⟩, g1, l1, b1⟩ := hItem _ _ _ _ _ hv
      cases b with
      | true =>
        refine wpAny_bind (wpAny_holding (wpAny_truthy_bool ?_)) ; refine wpAny_bind (wpAny_letGo ?_)
        have hsz1 : g < s₁.gens.size := by
          have q : (s₁.setGen g gs').gens.size = s₁.gens.size := setGen_size _ _ _
          have h2 : g + 1 ≤ (s₁.setGen g gs').gens.size := hsz
          omega
        simp only [if_true] ; refine wpAny_pure ⟨plainId_quiet PySem.F.plain_all_loop _, ih _ g1 l1 ⟨gs', setGen_at hsz1, ?_⟩⟩
        exact hMore _ _ _ _ hv _ rfl rfl (allBare_setGen (s := s₁.setGen g gs') (allBare_setGen b1 hb) rfl)
      | false =>
        refine wpAny_bind (wpAny_holding (wpAny_truthy_bool ?_)) ; refine wpAny_bind (wpAny_letGo ?_)
        simp only [Bool.false_eq_true, if_false] ; exact wpAny_bind (wpAny_rule (wpAny_pure (hStop _ _ _ _ _ hv hb)))
    · intro _
      exact wpAny_bind (wpAny_rule (wpAny_pure (hEnd _ hp h' hk)))
end
section
variable {X : Cx}
/-- all(elt for tg in iter) -/
theorem pe_all {c P : Addr} {elt tg iter : Expr} {p pos gpos : Pos} {scope : Scope} {own : List (Str × Nat)} {wi : TI} {g : TG} {te : TE} {k : Nat}
    (hr : Room (k + 1) X.A) (hg : Gl X "all") (hm : X.mg "all" = none) (TB : LamX.TabB X.base X.mg c P) (hcode : X.env.code = .ref c) (hc : X.calm = true) (hN : X.N.Nodup)
    (hi : PI X tg iter wi) (ok : BlkOk X.N X.env.scope scope own) (hco : scope.isCoroutine = false) (hcell : ∀ y ∈ scope.names, y.2 ≠ .cell) (h0 : scope.names.lookup (".0" : Str) = some NameKind.local) (hdot : (".0" : Str) ∉ X.N)
    (hpg : ∀ (s : Shared) (H : Hp) (ge : Env) (B : Around) (fp : List Addr), ge.scope = scope → PG (gcx X s H ge B fp) tg g)
    (hpe : ∀ (s : Shared) (H : Hp) (ge : Env) (B : Around) (fp : List Addr), ge.scope = scope → Room k B → PE (gcx X s H ge B fp) elt te)
    (hs : ∀ v, genFold iter X.env v = pure v := by intro _; rfl)
    (he : starEach [GE elt tg iter scope gpos] X.env = (false, eval (GE elt tg iter scope gpos) X.env) :: starEach [] X.env := by rfl) :
    PE X (.Call (.Name "all" p) [GE elt tg iter scope gpos] [] pos) (tAll wi g te (own.map (·.2)) P) := by
  refine ⟨fun pins s σ H Q I h => ?_⟩
  have hfree : ∀ y ∈ scope.names, y.2 = .free → ∃ c, X.env.cells.lookup y.1 = some c := fun y hy e => by
    rcases ok.free y hy e with k | k
    · exact I.ok.has _ (.inl k)
    · exact I.ok.has _ (.inr k)
  refine wpAny_Call_Name_kw (ld_blt I hg hm PyProof.Rows.boot_all ?_)
  refine PyProof.Rows.callWith_builtin1 ?_ he (by rfl) ; rw [he]
  show wpAny _ _ (spliced ((false, eval (GE elt tg iter scope gpos) X.env) :: backTo pos (starEach [] X.env))) _ _ s
  refine Calls.spliced_cons ?_
  refine wpAny_GeneratorExp_make hco (closure_ok hfree) hcell h0 ok.kind (by have := hr.dp; omega) ?_ hs
  refine thn (hi.run pins s σ H _ I h) fun xv s1 hx => thn hx fun itv s2 h2 => ?_
  obtain ⟨it, fp, tn, J, H2, rfl, I2, T, st2, f2, ⟨ps, hP, ht⟩, q⟩ := h2
  refine ⟨I2.nolimit, ?_⟩
  have hPs : s2.heap.get? P = some { cls := .none, data := .fields ps } := I2.hok P _ hP
  have cd : PySem.W.CodeHd s2.heap c P := TB.code.keeps I2.bk
  -- behind the code object: the def's table may have grown
  have cont : ∀ (code : Value) (h3 : Heap) (tk : Nat) (more : Array Value), Heap.ExtBut P s2.heap h3 → s2.heap.objs.size ≤ h3.objs.size → h3.get? P = some { cls := .none, data := .fields (ps ++ more) } → TriplesOk (ps ++ more).toList →
      wpAny (model X.prog X.w) X.A (builtinsFor X.env.globals X.env.builtins) (fun bi s₄ => ∀ h' : Heap, h'.Ns s₄.heap.objs.size (fun y => if y = ".0" then some (.ref it) else none) → Heap.SameBut s₄.heap.objs.size (s₄.heap.push { cls := .type "frame", data := .dict #[] }) h' →
        wpAny (model X.prog X.w) X.A (spliced (backTo pos (starEach [] X.env))) (fun us s5 => wpAny (model X.prog X.w) X.A (call (.builtin "all") (Value.ref h'.objs.size :: us)) (EP X pins σ Q) X.xe s5) X.xe
          { s₄ with gens := s₄.gens.push (.fresh (.compStart (GE elt tg iter scope gpos) 0 (.ref it) .none (genEnv scope (cloFrom X.env.cells scope.names []) s₄.heap.objs.size code bi X.env))), toks := s₄.toks + 1 + 1 + 1, heap := h'.push { cls := .type "generator", data := .fields #[.int s₄.gens.size 0, .str "<genexpr>" (s₄.toks + 1), .str (X.env.qual ++ "<genexpr>") (s₄.toks + 1 + 1)] } }) X.xe { s2 with heap := h3, toks := tk } := by
    intro code h3 tk more hx hsz hP3 ht3
    obtain ⟨bm, ob, e1, e2, e3, e4, e5, e6, e7, e8⟩ := TB.bm
    have keep3 : ∀ b u, b ≠ P → s2.heap.get? b = some u → h3.get? b = some u := fun b u hb e => hx b u hb e
    refine wpAny_builtinsFor (m := X.mg) (by rw [I2.ok.glob]; exact (I2.mod.glob.keeps I2.bk).extBut hx TB.gP) e1 e2 (keep3 _ _ e4 (I2.bk _ _ e5)) e6 e7 e8 ?_
    have I3 : Inv X pins σ (upd H2 P (.tbl (ps ++ more))) { s2 with heap := h3, toks := tk } := GxR.inv_tab (more := more) (h' := h3) (g' := s2.gens) (d' := s2.drawn) (t' := tk) I2 hP keep3 hP3 I2.bare
    generalize hH3 : upd H2 P (.tbl (ps ++ more)) = H3 at I3
    generalize hs3 : ({ s2 with heap := h3, toks := tk } : Shared) = s3 at I3
    have hs3h : s3.heap = h3 := by rw [← hs3]
    intro h' hn' hsb
    have nfp : ∀ b ∈ fp, b ≠ P := fun b hb z => by
      have q1 := (f2 b hb).1
      rw [z, hP] at q1
      cases q1
    have st3 : tn 0 s3.heap := T.keep _ _ _ st2 fun b hb o e => by rw [hs3h]; exact keep3 b o (nfp b hb) e
    have f3 : ∀ b ∈ fp, FpOk X pins H3 b ∧ b < s3.heap.objs.size := fun b hb => by
      refine ⟨⟨?_, (f2 b hb).2⟩, ?_⟩
      · rw [← hH3, upd_ne (nfp b hb)]
        exact (f2 b hb).1
      · obtain ⟨o, e, _⟩ := T.obj _ _ st3 b hb
        exact Heap.lt_size e
    have bq : AllBare (s3.gens.push (GenState.fresh (.compStart (GE elt tg iter scope gpos) 0 (.ref it) .none (genEnv scope (cloFrom X.env.cells scope.names []) s3.heap.objs.size code builtinsNs X.env)))) := I3.bare.push rfl
    have sz' : h'.objs.size = s3.heap.objs.size + 1 := by rw [hsb.1, Heap.size_push]
    have nge : ∀ b ∈ fp, b ≠ h'.objs.size := fun b hb z => by
      have h9 := (f3 b hb).2
      rw [z, sz'] at h9
      exact absurd (Nat.lt_of_succ_lt h9) (Nat.lt_irrefl _)
    have I4 := gen_start (B := gar X.A.in1.in1 elt tg iter scope gpos it (genEnv scope (cloFrom X.env.cells scope.names []) s3.heap.objs.size code builtinsNs X.env)) (code := code) (it := .ref it) (t' := s3.toks + 1 + 1 + 1)
      (go := { cls := .type "generator", data := .fields #[.int s3.gens.size 0, .str "<genexpr>" (s3.toks + 1), .str (X.env.qual ++ "<genexpr>") (s3.toks + 1 + 1)] }) I3 ok hN hcell f3 hr.hd
      (by have e : X.A.in1.in1.frames = some X.stack := I3.ok.frames
          unfold gar Around.over ; dsimp only ; rw [e] ; rfl) bq hn' hsb (fun v z => by cases z) rfl hdot
    generalize hgo : ({ cls := .type "generator", data := .fields #[.int s3.gens.size 0, .str "<genexpr>" (s3.toks + 1), .str (X.env.qual ++ "<genexpr>") (s3.toks + 1 + 1)] } : Obj) = go at I4 ⊢
    have ggen : ∀ {s' : Shared} {σ' H'}, Inv (gC X s3 H3 (genEnv scope (cloFrom X.env.cells scope.names []) s3.heap.objs.size code builtinsNs X.env) fp X.A.in1.in1 elt tg iter scope gpos it) [(h'.objs.size, go)] σ' H' s' → s'.heap.IsGen h'.objs.size s3.gens.size := fun {s' σ' H'} J => by
      have q := (J.pin (h'.objs.size, go) (by simp)).1
      exact ⟨_, _, _, q, by rw [← hgo], by rw [← hgo], by rw [← hgo]⟩
    generalize hge : genEnv scope (cloFrom X.env.cells scope.names []) s3.heap.objs.size code builtinsNs X.env = ge at I4 bq ggen ⊢
    have geS : ge.scope = scope := by rw [← hge]; rfl
    generalize ha : h'.objs.size = a at I4 nge ggen ⊢
    generalize hs4 : ({ s3 with heap := h'.push go, gens := s3.gens.push (GenState.fresh (.compStart (GE elt tg iter scope gpos) 0 (.ref it) .none ge)), toks := s3.toks + 1 + 1 + 1 } : Shared) = s4 at I4 ⊢
    have hs4h : s4.heap = h'.push go := by rw [← hs4]
    have gs4 : s4.gens[s3.gens.size]? = some (GenState.fresh (.compStart (GE elt tg iter scope gpos) 0 (.ref it) .none ge)) := by
      rw [← hs4] ; exact Array.getElem?_push_size ..
    have st4 : tn 0 s4.heap := T.keep _ _ _ st3 fun b hb o e => by
      rw [hs4h]
      exact Heap.get?_push_of_some _ (hsb.extBut b o (Nat.ne_of_lt (Heap.lt_size e)) (Heap.get?_push_of_some _ e))
    obtain ⟨W, ⟨m0, w0⟩, turn⟩ := q H3 ⟨⟨ps ++ more, by rw [← hH3]; exact upd_same, ht3⟩, fun b hb => by rw [← hH3]; exact upd_ne hb⟩
    refine Calls.spliced_nil ?_
    refine call_function_tree PySem.F.kind_all PySem.F.plain_all PySem.F.entry_all (PySem.F.args_all1 _) ?_ ; unfold Builtin.«all»
    refine wpAny_bind (m := oneArg "all" _) (wpAny_pure ?_) ; refine wpAny_bind (wpAny_pyIter_gen (ggen I4) ?_)
    have back : ∀ {s' : Shared} {H' : Hp} {h'' : Heap} {gs : GenState}, Inv (gC X s3 H3 ge fp X.A.in1.in1 elt tg iter scope gpos it) [(a, go)] (wipe σ (own.map (·.2))) H' s' → gs.bare = true → (∀ b o, s'.heap.get? b = some o → h''.get? b = some o) →
        Inv X pins σ H' { s'.setGen s3.gens.size gs with heap := h'' } := fun {s' H' h'' gs} J hb hk => by
      have o1 : s'.os = s3.os := J.os
      exact I3.call' (ch := fp) (s' := { s'.setGen s3.gens.size gs with heap := h'' }) o1 (J.base.trans (Un.kept hk)) (J.hok.kept hk) (allBare_setGen J.bare hb)
        fun b hb => ⟨(f3 b hb).1.2.2.2.1, (f3 b hb).1.2.1, (f3 b hb).1.2.2.2.2.1, (f3 b hb).1.2.2.2.2.2⟩
    refine wpAny_pure ⟨plainId_quiet PySem.F.plain_all_loop _, all_turns (g := s3.gens.size) (fin := gEnd X s3 H3 ge fp X.A.in1.in1 elt tg iter scope gpos it a go σ (own.map (·.2)) Q) (item := gItem X s3 H3 ge fp X.A.in1.in1 elt tg iter scope gpos it a go σ (own.map (·.2)) Q)
      hr.hd (by have := hr.dp; omega) (fun n s₀ v s' kap hv => ?_) (fun n s₀ s' kap hv s'' e1 e2 e3 => ?_) (fun n s₀ s' kap gs hv hb => ?_) (fun s' hf h'' hk => ?_) (m0 + 1) s4 (ggen I4) I4.nolimit ⟨_, gs4, rfl, ?_⟩⟩
    · obtain ⟨b, H', rfl, J, _, _⟩ := hv
      exact ⟨⟨b, rfl⟩, ggen J, J.nolimit, J.bare⟩
    · obtain ⟨b, H', eb, J, _, k1⟩ := hv
      cases eb
      exact k1 rfl s'' e1 e2 e3
    · obtain ⟨b, H', eb, J, k0, _⟩ := hv
      cases eb
      exact ⟨.bl false, H', back J hb fun _ _ e => e, rfl, k0 rfl⟩
    · obtain ⟨H', J, qq⟩ := hf
      exact ⟨.bl true, H', back J rfl hk, rfl, qq⟩
    · have rB : Room k (gar X.A.in1.in1 elt tg iter scope gpos it ge) := by
        refine ⟨hr.hd, ?_, ?_⟩
        · have := hr.dp
          show X.A.depth + 0 + 1 + 3 * k + 5 < _
          omega
        · have := hr.un
          show X.A.units + 1 + 1 + 0 + 3 + 16 * k + 200 < _
          omega
      exact gen_begin hc T (by rw [geS]; exact hco) nge (hpg _ _ _ _ _ geS) (hpe _ _ _ _ _ geS rB) turn w0 (inv_same I4 rfl rfl (allBare_setGen I4.bare rfl)) st4 (fun b hb => (f3 b hb).1.1)
  cases hf : codeAmong gpos ps.toList with
  | none =>
    refine wpAny_genexprCodeX hcode (cd.code hPs ht) (cd.tab hPs) hf fun c' h' tk hx hge hlt hco' _ htab' _ => ?_
    obtain ⟨o1, vs, f1, tf, fl, tg1, inF, tx, tt, op, _, _, _, _, _, _, _, _, _, htr, _⟩ := hco'
    exact cont _ h' tk _ hx (Nat.le_trans hge (Nat.le_of_lt hlt)) htab'.2 htr
  | some cv =>
    refine wpAny_genexprCode_hit hcode (cd.code hPs ht) hf ?_
    have h1 := cont cv s2.heap s2.toks #[] (Heap.ExtBut.refl _ _) (Nat.le_refl _) (by simpa using hPs) (by simpa using ht)
    exact h1
end
end Z

set_option Elab.async false
set_option linter.all false
set_option maxRecDepth 100000
set_option maxHeartbeats 4000000
namespace Z
open PySem PySem.Spec PyProof.Rows L2

/-! ## A Hoare logic over plain data -/

/-- all that was tracked stands, tables may have grown -/
def Sm (H H' : Hp) : Prop := (∀ a o, H a = some o → (∀ ps, o ≠ .tbl ps) → H' a = some o) ∧ ∀ P, TabOk H P → TabOk H' P
theorem Sm.refl (H : Hp) : Sm H H := ⟨fun _ _ h _ => h, fun _ h => h⟩
theorem Sm.trans {H H1 H2 : Hp} (a : Sm H H1) (b : Sm H1 H2) : Sm H H2 := ⟨fun x o h n => b.1 x o (a.1 x o h n) n, fun P h => b.2 P (a.2 P h)⟩
theorem Sm.of_le {H H' : Hp} (h : ∀ a o, H a = some o → H' a = some o) : Sm H H' := ⟨fun a o e _ => h a o e, fun P ⟨ps, e, t⟩ => ⟨ps, h _ _ e, t⟩⟩
theorem Sm.new {H : Hp} {p : Addr} {o : HO} (h : H p = none) : Sm H (upd H p o) := .of_le fun a u e => by rw [upd_ne (ne_of_none e h)]; exact e
theorem Sm.grown {P : Addr} {H H' : Hp} (h0 : TabOk H P) (g : Grown P H H') : Sm H H' := by
  obtain ⟨t, k⟩ := g
  obtain ⟨qs, hq, _⟩ := h0
  refine ⟨fun a o e n => ?_, fun P' h => ?_⟩
  · by_cases ha : a = P
    · rw [ha, hq] at e
      exact absurd (Option.some.inj e).symm (n qs)
    · rw [k a ha]; exact e
  · by_cases hp : P' = P
    · rw [hp]; exact t
    · obtain ⟨ps, e, r⟩ := h
      exact ⟨ps, by rw [k P' hp]; exact e, r⟩

/-- the heap without the addresses of O -/
def mask (O : List Addr) (H : Hp) : Hp := fun a => if a ∈ O then none else H a
theorem mask_out {O : List Addr} {H : Hp} {a : Addr} (h : a ∉ O) : mask O H a = H a := if_neg h
theorem mask_in {O : List Addr} {H : Hp} {a : Addr} (h : a ∈ O) : mask O H a = none := if_pos h
theorem mask_some {O : List Addr} {H : Hp} {a : Addr} {o : HO} (h : mask O H a = some o) : H a = some o ∧ a ∉ O := by
  by_cases q : a ∈ O
  · rw [mask_in q] at h; cases h
  · rw [mask_out q] at h; exact ⟨h, q⟩
theorem mask_le (O : List Addr) (H : Hp) : Sm (mask O H) H := .of_le fun _ _ e => (mask_some e).1
theorem mask_sub {O O' : List Addr} {H : Hp} (h : ∀ a ∈ O', a ∈ O) : Sm (mask O H) (mask O' H) := .of_le fun a o e => by
  obtain ⟨e1, e2⟩ := mask_some e
  rw [mask_out (fun q => e2 (h a q))]; exact e1
theorem mask_upd_in {O : List Addr} {H : Hp} {a : Addr} {o : HO} (h : a ∈ O) : mask O (upd H a o) = mask O H := by
  funext b
  by_cases q : b ∈ O
  · rw [mask_in q, mask_in q]
  · rw [mask_out q, mask_out q, upd_ne (fun e => q (by rw [e]; exact h))]
theorem mask_nil (H : Hp) : mask [] H = H := by funext a; exact mask_out (by simp)
/-- an update out of the mask -/
theorem mask_upd_out {O : List Addr} {H : Hp} {a : Addr} {o : HO} (h : a ∉ O) : mask O (upd H a o) = upd (mask O H) a o := by
  funext b
  by_cases e : b = a
  · subst e; rw [mask_out h, upd_same, upd_same]
  · rw [upd_ne e]
    by_cases q : b ∈ O
    · rw [mask_in q, mask_in q]
    · rw [mask_out q, mask_out q, upd_ne e]

/-! ### what a value holds -/
def keyD : Key → PyData
  | .inl i => .int i
  | .inr x => .str x
mutual
def Rp (K : PySem.W.Frag) (H : Hp) : PyData → V → Prop
  | .none, v => v = .non
  | .bool b, v => v = .bl b
  | .int i, v => v = .int i
  | .str x, v => v = .str x
  | .list ds, v => ∃ a xs, v = .ref a ∧ SqL K H a xs ∧ RpL K H ds xs
  | .tuple ds, v => ∃ a xs, v = .ref a ∧ SqT K H a xs ∧ RpL K H ds xs
  | .dict kvs, v => ∃ a, v = .ref a ∧ ((∃ ys : List (Key × V), Rd H a (.dK ys) ∧ RpK K H kvs ys) ∨ ∃ ys : List (List Key × V), Rd H a (.dT ys) ∧ RpT K H kvs ys)
def RpL (K : PySem.W.Frag) (H : Hp) : List PyData → List V → Prop
  | [], vs => vs = []
  | d :: ds, vs => ∃ v r, vs = v :: r ∧ Rp K H d v ∧ RpL K H ds r
def RpK (K : PySem.W.Frag) (H : Hp) : List (PyData × PyData) → List (Key × V) → Prop
  | [], ys => ys = []
  | (k, d) :: r, ys => ∃ q y s, ys = (q, y) :: s ∧ k = keyD q ∧ Rp K H d y ∧ RpK K H r s
def RpT (K : PySem.W.Frag) (H : Hp) : List (PyData × PyData) → List (List Key × V) → Prop
  | [], ys => ys = []
  | (k, d) :: r, ys => ∃ q y s, ys = (q, y) :: s ∧ k = .tuple (q.map keyD) ∧ Rp K H d y ∧ RpT K H r s
end
theorem rd_sm {H H' : Hp} {a : Addr} {u : HO} (e : Sm H H') (n : ∀ ps, u ≠ .tbl ps) (h : Rd H a u) : Rd H' a u := by
  rcases h with h | ⟨o, h⟩
  · exact .inl (e.1 _ _ h n)
  · exact .inr ⟨o, e.1 _ _ h (fun ps z => by cases z)⟩
theorem sqL_sm {K : PySem.W.Frag} {H H' : Hp} {a : Addr} {xs : List V} (e : Sm H H') (h : SqL K H a xs) : SqL K H' a xs := by
  rcases h with h | h
  · exact .inl (rd_sm e (fun ps z => by cases z) h)
  · exact .inr h
theorem sqT_sm {K : PySem.W.Frag} {H H' : Hp} {a : Addr} {xs : List V} (e : Sm H H') (h : SqT K H a xs) : SqT K H' a xs := by
  rcases h with h | h
  · exact .inl (rd_sm e (fun ps z => by cases z) h)
  · exact .inr h
section
variable {K : PySem.W.Frag} {H H' : Hp}
mutual
theorem Rp.sm (e : Sm H H') : ∀ (d : PyData) (v : V), Rp K H d v → Rp K H' d v
  | .none, _, h => h
  | .bool _, _, h => h
  | .int _, _, h => h
  | .str _, _, h => h
  | .list ds, _, h => by
    simp only [Rp] at h ⊢
    obtain ⟨a, xs, h1, h2, h3⟩ := h
    exact ⟨a, xs, h1, sqL_sm e h2, RpL.sm e ds xs h3⟩
  | .tuple ds, _, h => by
    simp only [Rp] at h ⊢
    obtain ⟨a, xs, h1, h2, h3⟩ := h
    exact ⟨a, xs, h1, sqT_sm e h2, RpL.sm e ds xs h3⟩
  | .dict kvs, _, h => by
    simp only [Rp] at h ⊢
    obtain ⟨a, h1, h2⟩ := h
    refine ⟨a, h1, ?_⟩
    rcases h2 with ⟨ys, r, q⟩ | ⟨ys, r, q⟩
    · exact .inl ⟨ys, rd_sm e (fun ps z => by cases z) r, RpK.sm e kvs ys q⟩
    · exact .inr ⟨ys, rd_sm e (fun ps z => by cases z) r, RpT.sm e kvs ys q⟩
theorem RpL.sm (e : Sm H H') : ∀ (ds : List PyData) (vs : List V), RpL K H ds vs → RpL K H' ds vs
  | [], _, h => h
  | d :: ds, _, h => by
    simp only [RpL] at h ⊢
    obtain ⟨v, r, h1, h2, h3⟩ := h
    exact ⟨v, r, h1, Rp.sm e d v h2, RpL.sm e ds r h3⟩
theorem RpK.sm (e : Sm H H') : ∀ (ds : List (PyData × PyData)) (vs : List (Key × V)), RpK K H ds vs → RpK K H' ds vs
  | [], _, h => h
  | (k, d) :: ds, _, h => by
    simp only [RpK] at h ⊢
    obtain ⟨q, y, s, h1, h2, h3, h4⟩ := h
    exact ⟨q, y, s, h1, h2, Rp.sm e d y h3, RpK.sm e ds s h4⟩
theorem RpT.sm (e : Sm H H') : ∀ (ds : List (PyData × PyData)) (vs : List (List Key × V)), RpT K H ds vs → RpT K H' ds vs
  | [], _, h => h
  | (k, d) :: ds, _, h => by
    simp only [RpT] at h ⊢
    obtain ⟨q, y, s, h1, h2, h3, h4⟩ := h
    exact ⟨q, y, s, h1, h2, Rp.sm e d y h3, RpT.sm e ds s h4⟩
end
end
theorem rpl_nil {K : PySem.W.Frag} {H : Hp} : RpL K H [] [] := by simp only [RpL]
theorem rpl_cons {K : PySem.W.Frag} {H : Hp} {d : PyData} {ds : List PyData} {v : V} {vs : List V} (h : Rp K H d v) (r : RpL K H ds vs) : RpL K H (d :: ds) (v :: vs) := by
  simp only [RpL] ; exact ⟨v, vs, rfl, h, r⟩
theorem rpl_len {K : PySem.W.Frag} {H : Hp} : ∀ {ds : List PyData} {vs : List V}, RpL K H ds vs → ds.length = vs.length
  | [], _, h => by simp only [RpL] at h; subst h; rfl
  | d :: ds, _, h => by
    simp only [RpL] at h
    obtain ⟨v, r, rfl, _, h3⟩ := h
    simp [rpl_len h3]
theorem rpl_get {K : PySem.W.Frag} {H : Hp} : ∀ {ds : List PyData} {vs : List V} {i : Nat} {d : PyData}, RpL K H ds vs → ds[i]? = some d → ∃ v, vs[i]? = some v ∧ Rp K H d v
  | [], _, _, _, _, e => by simp at e
  | d :: ds, _, 0, d', h, e => by
    simp only [RpL] at h
    obtain ⟨v, r, rfl, h2, _⟩ := h
    have : d = d' := by simpa using e
    subst this
    exact ⟨v, rfl, h2⟩
  | d :: ds, _, i + 1, d', h, e => by
    simp only [RpL] at h
    obtain ⟨v, r, rfl, _, h3⟩ := h
    obtain ⟨w, e1, e2⟩ := rpl_get (i := i) (d := d') h3 (by simpa using e)
    exact ⟨w, by simpa using e1, e2⟩
theorem rpl_app {K : PySem.W.Frag} {H : Hp} : ∀ {ds es : List PyData} {vs ws : List V}, RpL K H ds vs → RpL K H es ws → RpL K H (ds ++ es) (vs ++ ws)
  | [], _, _, _, h, g => by simp only [RpL] at h; subst h; exact g
  | d :: ds, _, _, _, h, g => by
    simp only [RpL] at h
    obtain ⟨v, r, rfl, h2, h3⟩ := h
    exact rpl_cons h2 (rpl_app h3 g)
theorem rpl_set {K : PySem.W.Frag} {H : Hp} {d : PyData} {v : V} (h : Rp K H d v) : ∀ {ds : List PyData} {vs : List V} (i : Nat), RpL K H ds vs → RpL K H (ds.set i d) (vs.set i v)
  | [], _, _, g => by simp only [RpL] at g; subst g; simp only [List.set_nil]; exact rpl_nil
  | e :: ds, _, 0, g => by
    simp only [RpL] at g
    obtain ⟨w, r, rfl, _, h3⟩ := g
    exact rpl_cons h h3
  | e :: ds, _, i + 1, g => by
    simp only [RpL] at g
    obtain ⟨w, r, rfl, h2, h3⟩ := g
    exact rpl_cons h2 (rpl_set h i h3)
theorem rpl_take {K : PySem.W.Frag} {H : Hp} : ∀ {ds : List PyData} {vs : List V} (n : Nat), RpL K H ds vs → RpL K H (ds.take n) (vs.take n)
  | _, _, 0, _ => rpl_nil
  | [], _, n + 1, g => by simp only [RpL] at g; subst g; exact rpl_nil
  | d :: ds, _, n + 1, g => by
    simp only [RpL] at g
    obtain ⟨w, r, rfl, h2, h3⟩ := g
    exact rpl_cons h2 (rpl_take n h3)
theorem rpl_drop {K : PySem.W.Frag} {H : Hp} : ∀ {ds : List PyData} {vs : List V} (n : Nat), RpL K H ds vs → RpL K H (ds.drop n) (vs.drop n)
  | _, _, 0, g => g
  | [], _, n + 1, g => by simp only [RpL] at g; subst g; exact rpl_nil
  | d :: ds, _, n + 1, g => by
    simp only [RpL] at g
    obtain ⟨w, r, rfl, h2, h3⟩ := g
    exact rpl_drop (ds := ds) (vs := r) n h3

/-- no list, no dict in it -/
def flat : PyData → Bool
  | .list _ => false
  | .dict _ => false
  | .tuple ds => flats ds
  | _ => true
where flats : List PyData → Bool
  | [] => true
  | d :: ds => flat d && flats ds

section
variable {K : PySem.W.Frag} {H : Hp} {O : List Addr}
def MutAll (O : List Addr) (H : Hp) : Prop := ∀ l ∈ O, Mut (H l)
mutual
theorem rp_flat (m : MutAll O H) : ∀ (d : PyData) (v : V), flat d = true → Rp K H d v → Rp K (mask O H) d v
  | .none, _, _, h => h
  | .bool _, _, _, h => h
  | .int _, _, _, h => h
  | .str _, _, _, h => h
  | .list ds, _, f, h => by simp [flat] at f
  | .dict kvs, _, f, h => by simp [flat] at f
  | .tuple ds, _, f, h => by
    simp only [Rp] at h ⊢
    obtain ⟨a, xs, h1, h2, h3⟩ := h
    refine ⟨a, xs, h1, ?_, rpl_flat m ds xs (by simpa only [flat] using f) h3⟩
    rcases h2 with (h2 | ⟨o, h2⟩) | h2
    · refine .inl (.inl ?_)
      rw [mask_out]
      · exact h2
      · intro q
        have := m a q
        rw [h2] at this
        exact this
    · refine .inl (.inr ⟨o, ?_⟩)
      rw [mask_out]
      · exact h2
      · intro q
        have := m a q
        rw [h2] at this
        exact this
    · exact .inr h2
theorem rpl_flat (m : MutAll O H) : ∀ (ds : List PyData) (vs : List V), flat.flats ds = true → RpL K H ds vs → RpL K (mask O H) ds vs
  | [], _, _, h => h
  | d :: ds, _, f, h => by
    simp only [RpL] at h ⊢
    obtain ⟨v, r, h1, h2, h3⟩ := h
    simp only [flat.flats, Bool.and_eq_true] at f
    exact ⟨v, r, h1, rp_flat m d v f.1 h2, rpl_flat m ds r f.2 h3⟩
end
end

/-! ### the frame -/
abbrev Ga := List (Option PyData)
/-- an error of an own class; with a field: its name, what it holds -/
inductive Er where
  | own (c : Str)
  | fld (c f : Str) (d : PyData)
abbrev Res := Except Er PyData
/-- what stays the same through a def: the written part, the names of the module, the tables, the slots that hold a list (or a dict) of their own, which is changed in place -/
structure Cb where
  K : PySem.W.Frag
  mg : Str → Option Value
  Ts : List Addr
structure Cf extends Cb where
  fl : List Nat
  pin : List (Nat × V) := []
/-- a slot that is not changed in place, that is not held -/
abbrev Cf.plain (C : Cf) (i : Nat) : Bool := !C.fl.contains i && C.pin.all fun p => p.1 != i
theorem nfl {C : Cf} {i : Nat} (h : C.fl.contains i = false) : i ∉ C.fl := fun q => by
  have : C.fl.contains i = true := by simpa using q
  rw [h] at this
  cases this
theorem yfl {C : Cf} {i : Nat} (h : C.fl.contains i = true) : i ∈ C.fl := by simpa using h
theorem npn {C : Cf} {i : Nat} (h : (C.pin.all fun p => p.1 != i) = true) : ∀ p ∈ C.pin, p.1 ≠ i := fun p hp => by
  have := List.all_eq_true.mp h p hp
  simpa using this
theorem pl1 {C : Cf} {i : Nat} (h : C.plain i = true) : i ∉ C.fl := nfl (by
  have := (Bool.and_eq_true _ _ ▸ h : _ ∧ _).1
  simpa using this)
theorem pl2 {C : Cf} {i : Nat} (h : C.plain i = true) : ∀ p ∈ C.pin, p.1 ≠ i := npn (Bool.and_eq_true _ _ ▸ h : _ ∧ _).2
/-- the addresses that are changed in place -/
def ow1 (σ : L2.St) (Γ : Ga) (i : Nat) : Option Addr := match Γ[i]? with
  | some (some _) => (match σ[i]? with
    | some (some (.ref l)) => some l
    | _ => none)
  | _ => none
def ow (fl : List Nat) (Ox : List Addr) (σ : L2.St) (Γ : Ga) : List Addr := fl.filterMap (ow1 σ Γ) ++ Ox
/-- what stands at an address of one's own -/
def Cel (K : PySem.W.Frag) (H : Hp) (d : PyData) (o : HO) : Prop := match d with
  | .list ds => ∃ xs, o = .lst xs ∧ RpL K H ds xs
  | .dict kvs => (∃ ys, o = .dK ys ∧ RpK K H kvs ys) ∨ ∃ ys, o = .dT ys ∧ kvs ≠ [] ∧ RpT K H kvs ys
  | _ => False
theorem Cel.sm {K : PySem.W.Frag} {H H' : Hp} (e : Sm H H') {d : PyData} {o : HO} (h : Cel K H d o) : Cel K H' d o := by
  cases d with
  | list ds => obtain ⟨xs, h1, h2⟩ := h; exact ⟨xs, h1, RpL.sm e _ _ h2⟩
  | dict kvs =>
    rcases h with ⟨ys, h1, h2⟩ | ⟨ys, h1, h0, h2⟩
    · exact .inl ⟨ys, h1, RpK.sm e _ _ h2⟩
    · exact .inr ⟨ys, h1, h0, RpT.sm e _ _ h2⟩
  | none => exact h
  | bool _ => exact h
  | int _ => exact h
  | str _ => exact h
  | tuple _ => exact h
theorem Cel.mut {K : PySem.W.Frag} {H : Hp} {d : PyData} {o : HO} (h : Cel K H d o) : Mut (some o) := by
  cases d with
  | list ds => obtain ⟨xs, rfl, h2⟩ := h; trivial
  | dict kvs =>
    rcases h with ⟨ys, rfl, h2⟩ | ⟨ys, rfl, h0, h2⟩
    · trivial
    · trivial
  | none => exact h.elim
  | bool _ => exact h.elim
  | int _ => exact h.elim
  | str _ => exact h.elim
  | tuple _ => exact h.elim
/-- what stands at an own address, as a value to be read -/
theorem Cel.rp {K : PySem.W.Frag} {H : Hp} {d : PyData} {o : HO} {l : Addr} (h : Cel K H d o) (hl : H l = some o) : Rp K H d (.ref l) := by
  cases d with
  | list ds =>
    obtain ⟨xs, rfl, h2⟩ := h
    simp only [Rp]
    exact ⟨l, xs, rfl, .inl (.inl hl), h2⟩
  | dict kvs =>
    simp only [Rp]
    rcases h with ⟨ys, rfl, h2⟩ | ⟨ys, rfl, h0, h2⟩
    · exact ⟨l, rfl, .inl ⟨ys, .inl hl, h2⟩⟩
    · exact ⟨l, rfl, .inr ⟨ys, .inl hl, h2⟩⟩
  | none => exact h.elim
  | bool _ => exact h.elim
  | int _ => exact h.elim
  | str _ => exact h.elim
  | tuple _ => exact h.elim

structure EnvR (C : Cf) (H0 : Hp) (Ox : List Addr) (σ : L2.St) (Γ : Ga) (H : Hp) : Prop where
  len : σ.length = Γ.length
  tabs : ∀ P ∈ C.Ts, TabOk H0 P
  sm : Sm H0 (mask (ow C.fl [] σ Γ) H)
  val : ∀ (i : Nat) (d : PyData), Γ[i]? = some (some d) → i ∉ C.fl → ∃ v, σ[i]? = some (some v) ∧ Rp C.K (mask (ow C.fl Ox σ Γ) H) d v
  own : ∀ (i : Nat) (d : PyData), Γ[i]? = some (some d) → i ∈ C.fl → ∃ l o, σ[i]? = some (some (.ref l)) ∧ H l = some o ∧ Cel C.K (mask (ow C.fl Ox σ Γ) H) d o ∧ l ∉ Ox
  apart : ∀ (i j : Nat) (l : Addr), i ∈ C.fl → j ∈ C.fl → ow1 σ Γ i = some l → ow1 σ Γ j = some l → i = j
  ox : MutAll Ox H
  pn : ∀ p ∈ C.pin, σ[p.1]? = some (some p.2)
/-- a step that leaves the own addresses as they are -/
def Stp (O : List Addr) (H H' : Hp) : Prop := Sm (mask O H) (mask O H') ∧ ∀ l ∈ O, H' l = H l
theorem Stp.refl (O : List Addr) (H : Hp) : Stp O H H := ⟨Sm.refl _, fun _ _ => rfl⟩
theorem Stp.trans {O : List Addr} {H H1 H2 : Hp} (a : Stp O H H1) (b : Stp O H1 H2) : Stp O H H2 := ⟨a.1.trans b.1, fun l hl => (b.2 l hl).trans (a.2 l hl)⟩
theorem Stp.sm {O : List Addr} {H H' : Hp} (a : Stp O H H') (m : MutAll O H) : Sm H H' := by
  refine ⟨fun b o e n => ?_, fun P h => ?_⟩
  · by_cases q : b ∈ O
    · rw [a.2 b q]; exact e
    · have := a.1.1 b o (by rw [mask_out q]; exact e) n
      exact (mask_some this).1
  · obtain ⟨ps, e, t⟩ := h
    have q : P ∉ O := fun q => by
      have := m P q
      rw [e] at this
      exact this
    obtain ⟨qs, e2, t2⟩ := a.1.2 P ⟨ps, by rw [mask_out q]; exact e, t⟩
    exact ⟨qs, (mask_some e2).1, t2⟩
theorem Stp.of_sm {O : List Addr} {H H' : Hp} (e : Sm H H') (m : MutAll O H) : Stp O H H' := by
  have k : ∀ l ∈ O, H' l = H l := fun l hl => by
    have h1 := m l hl
    cases q : H l with
    | none => rw [q] at h1; exact h1.elim
    | some o =>
      refine e.1 l o q fun ps z => ?_
      rw [q, z] at h1
      exact h1
  refine ⟨⟨fun b o h n => ?_, fun P ⟨ps, h, t⟩ => ?_⟩, k⟩
  · obtain ⟨h1, h2⟩ := mask_some h
    rw [mask_out h2]; exact e.1 b o h1 n
  · obtain ⟨h1, h2⟩ := mask_some h
    obtain ⟨qs, e1, t1⟩ := e.2 P ⟨ps, h1, t⟩
    exact ⟨qs, by rw [mask_out h2]; exact e1, t1⟩
theorem Stp.mut {O : List Addr} {H H' : Hp} (a : Stp O H H') (m : MutAll O H) : MutAll O H' := fun l hl => by rw [a.2 l hl]; exact m l hl
/-- a new object -/
theorem Stp.new {O : List Addr} {H : Hp} {p : Addr} {o : HO} (m : MutAll O H) (h : H p = none) : Stp O H (upd H p o) := .of_sm (.new h) m
theorem not_own {O : List Addr} {H : Hp} {p : Addr} (m : MutAll O H) (h : H p = none) : p ∉ O := fun q => by
  have := m p q
  rw [h] at this
  exact this
section
variable {C : Cf} {H0 H1 H H' : Hp} {Ox : List Addr} {σ : L2.St} {Γ : Ga}
theorem ow_some {i : Nat} {l : Addr} (h : ow1 σ Γ i = some l) : (∃ d, Γ[i]? = some (some d)) ∧ σ[i]? = some (some (.ref l)) := by
  unfold ow1 at h
  split at h
  · rename_i d hd
    refine ⟨⟨d, hd⟩, ?_⟩
    split at h
    · rename_i l' hl
      cases h
      exact hl
    · cases h
  · cases h
theorem ow_of {i : Nat} {d : PyData} {l : Addr} (h1 : Γ[i]? = some (some d)) (h2 : σ[i]? = some (some (.ref l))) : ow1 σ Γ i = some l := by
  unfold ow1 ; rw [h1, h2]
theorem mem_ow {l : Addr} : l ∈ ow C.fl Ox σ Γ ↔ (∃ i ∈ C.fl, ow1 σ Γ i = some l) ∨ l ∈ Ox := by
  unfold ow
  rw [List.mem_append, List.mem_filterMap]
theorem EnvR.mut (E : EnvR C H0 Ox σ Γ H) : MutAll (ow C.fl Ox σ Γ) H := fun l hl => by
  rcases mem_ow.mp hl with ⟨i, hi, h⟩ | h
  · obtain ⟨⟨d, h1⟩, h2⟩ := ow_some h
    obtain ⟨l', o, e1, e2, e3, _⟩ := E.own i d h1 hi
    rw [h2] at e1
    cases e1
    rw [e2]
    exact e3.mut
  · exact E.ox l h
/-- the own addresses O, those among them that are a caller's -/
structure Ows (O Ox : List Addr) (H : Hp) : Prop where
  mu : MutAll O H
  sub : ∀ a ∈ Ox, a ∈ O
theorem EnvR.ows (E : EnvR C H0 Ox σ Γ H) : Ows (ow C.fl Ox σ Γ) Ox H := ⟨E.mut, fun a ha => mem_ow.mpr (.inr ha)⟩
theorem ow_sub {C : Cf} : ∀ a ∈ ow C.fl [] σ Γ, a ∈ ow C.fl Ox σ Γ := fun a h => by
  unfold ow at h ⊢
  rw [List.append_nil] at h
  exact List.mem_append_left _ h
theorem sm_mask {O : List Addr} {H H' : Hp} (k : Sm H H') : Sm (mask O H) (mask O H') := by
  refine ⟨fun b o h n => ?_, fun b ⟨ps, h, t⟩ => ?_⟩
  · obtain ⟨h1, h2⟩ := mask_some h
    rw [mask_out h2]; exact k.1 b o h1 n
  · obtain ⟨h1, h2⟩ := mask_some h
    obtain ⟨qs, e1, t1⟩ := k.2 b ⟨ps, h1, t⟩
    exact ⟨qs, by rw [mask_out h2]; exact e1, t1⟩
theorem mask_step {P O : List Addr} {H H' : Hp} (s : Stp O H H') (mu : MutAll O H) (sub : ∀ a ∈ P, a ∈ O) : Sm (mask P H) (mask P H') := sm_mask (s.sm mu)
theorem mask_two {C : Cf} : mask Ox (mask (ow C.fl [] σ Γ) H) = mask (ow C.fl Ox σ Γ) H := by
  funext a
  have e : a ∈ ow C.fl Ox σ Γ ↔ a ∈ ow C.fl [] σ Γ ∨ a ∈ Ox := by
    unfold ow
    rw [List.append_nil, List.mem_append]
  by_cases h1 : a ∈ Ox
  · rw [mask_in h1, mask_in (e.mpr (.inr h1))]
  · rw [mask_out h1]
    by_cases h2 : a ∈ ow C.fl [] σ Γ
    · rw [mask_in h2, mask_in (e.mpr (.inl h2))]
    · rw [mask_out h2, mask_out fun q => (e.mp q).elim h2 h1]
theorem EnvR.step (E : EnvR C H0 Ox σ Γ H) (s : Stp (ow C.fl Ox σ Γ) H H') : EnvR C H0 Ox σ Γ H' := by
  refine ⟨E.len, E.tabs, E.sm.trans (mask_step s E.mut ow_sub), fun i d h n => ?_, fun i d h n => ?_, E.apart, fun l hl => ?_, E.pn⟩
  · obtain ⟨v, e1, e2⟩ := E.val i d h n
    exact ⟨v, e1, e2.sm s.1⟩
  · obtain ⟨l, o, e1, e2, e3, e4⟩ := E.own i d h n
    exact ⟨l, o, e1, by rw [s.2 l (mem_ow.mpr (.inl ⟨i, n, ow_of h e1⟩))]; exact e2, e3.sm s.1, e4⟩
  · rw [s.2 l (mem_ow.mpr (.inr hl))]; exact E.ox l hl
/-- the same over what stands now -/
theorem EnvR.rebase (E : EnvR C H0 Ox σ Γ H) : EnvR C (mask (ow C.fl [] σ Γ) H) Ox σ Γ H := ⟨E.len, fun P h => E.sm.2 P (E.tabs P h), Sm.refl _, E.val, E.own, E.apart, E.ox, E.pn⟩
theorem EnvR.base (E : EnvR C H1 Ox σ Γ H) (h : Sm H0 H1) (t : ∀ P ∈ C.Ts, TabOk H0 P) : EnvR C H0 Ox σ Γ H := ⟨E.len, t, h.trans E.sm, E.val, E.own, E.apart, E.ox, E.pn⟩
/-- what stood, still stands, in all modes -/
theorem EnvR.all (E : EnvR C H0 Ox σ Γ H) : Sm (mask Ox H0) (mask (ow C.fl Ox σ Γ) H) := by
  rw [← mask_two]
  exact sm_mask E.sm
/-- reading a slot -/
theorem EnvR.read (E : EnvR C H0 Ox σ Γ H) {i : Nat} {d : PyData} (h : Γ[i]? = some (some d)) : ∃ v, σ[i]? = some (some v) ∧ Rp C.K H d v := by
  by_cases n : i ∈ C.fl
  · obtain ⟨l, o, e1, e2, e3, _⟩ := E.own i d h n
    exact ⟨.ref l, e1, (e3.sm (mask_le _ _)).rp e2⟩
  · obtain ⟨v, e1, e2⟩ := E.val i d h n
    exact ⟨v, e1, e2.sm (mask_le _ _)⟩
end
end Z

set_option Elab.async false
set_option linter.all false
set_option maxRecDepth 100000
set_option maxHeartbeats 4000000
namespace Z
open PySem PySem.Spec PyProof.Rows L2

/-! ### judgements: what an expression gives, as a function of the plain data in the slots -/
abbrev PX := Ga → Option Res
def cv (mg : Str → Option Value) (c : Str) : Value := (mg c).getD .none
/-- what is wanted of an error -/
def ErW (C : Cf) (W : WX) (σ : L2.St) (e : Er) (H : Hp) : Prop := match e with
  | .own c => W (cv C.mg c) none σ H
  | .fld c f d => ∀ dd v, H dd = none → Rp C.K H d v → W (cv C.mg c) (some dd) σ (upd H dd (.xd [(f, v)]))
/-- what may be done with a result: it may be stored, it may be returned, it may be read -/
inductive Md where
  | st | mid | rd
/-- the heap in which the result stands -/
def hm (m : Md) (O Ox : List Addr) (H : Hp) : Hp := match m with
  | .st => mask O H
  | .mid => mask Ox H
  | .rd => H
theorem hm_sm {m : Md} {O Ox : List Addr} {H H' : Hp} (s : Stp O H H') (mu : Ows O Ox H) : Sm (hm m O Ox H) (hm m O Ox H') := by
  cases m with
  | st => exact s.1
  | mid => exact mask_step s mu.mu mu.sub
  | rd => exact s.sm mu.mu
theorem hm_le {m : Md} {O Ox : List Addr} {H : Hp} : Sm (hm m O Ox H) H := by
  cases m with
  | st => exact mask_le _ _
  | mid => exact mask_le _ _
  | rd => exact .refl _
theorem hm_lt {m : Md} {O Ox : List Addr} {H : Hp} (mu : Ows O Ox H) : Sm (mask O H) (hm m O Ox H) := by
  cases m with
  | st => exact .refl _
  | mid => exact mask_sub mu.sub
  | rd => exact mask_le _ _
theorem hm_new {m : Md} {O Ox : List Addr} {H : Hp} {p : Addr} {o : HO} (mu : Ows O Ox H) (h : H p = none) : hm m O Ox (upd H p o) = upd (hm m O Ox H) p o := by
  have n := not_own mu.mu h
  cases m with
  | st => exact mask_upd_out n
  | mid => exact mask_upd_out fun q => n (mu.sub p q)
  | rd => rfl
theorem hm_none {m : Md} {O Ox : List Addr} {H : Hp} {p : Addr} (mu : Ows O Ox H) (h : H p = none) : hm m O Ox H p = none := by
  have n := not_own mu.mu h
  cases m with
  | st => exact (mask_out n).trans h
  | mid => exact (mask_out fun q => n (mu.sub p q)).trans h
  | rd => exact h
theorem Stp.ows {O Ox : List Addr} {H H' : Hp} (a : Stp O H H') (m : Ows O Ox H) : Ows O Ox H' := ⟨a.mut m.mu, m.sub⟩

def Ev (C : Cf) (W : WX) (m : Md) (te : TE) (f : PX) : Prop := ∀ Γ r, f Γ = some r → ∀ H0 Ox σ H, EnvR C H0 Ox σ Γ H → ∀ Q : VK,
  (match r with
    | .ok d => ∀ v H', Stp (ow C.fl Ox σ Γ) H H' → Rp C.K (hm m (ow C.fl Ox σ Γ) Ox H') d v → Q v H'
    | .error e => ∀ H', Stp (ow C.fl Ox σ Γ) H H' → ErW C W σ e H') → te σ H Q
/-- an expression that makes a new list (or dict): the object, all else -/
def EvF (C : Cf) (W : WX) (m : Md) (te : TE) (f : PX) : Prop := ∀ Γ r, f Γ = some r → ∀ H0 Ox σ H, EnvR C H0 Ox σ Γ H → ∀ Q : VK,
  (match r with
    | .ok d => ∀ l o H', Stp (ow C.fl Ox σ Γ) H H' → H' l = none → Cel C.K (hm m (ow C.fl Ox σ Γ) Ox H') d o → Q (.ref l) (upd H' l o)
    | .error e => ∀ H', Stp (ow C.fl Ox σ Γ) H H' → ErW C W σ e H') → te σ H Q
/-- arguments -/
abbrev PAx := Ga → Option (Except Er (List PyData))
def EvA (C : Cf) (W : WX) (m : Md) (ta : TA) (f : PAx) : Prop := ∀ Γ r, f Γ = some r → ∀ H0 Ox σ H, EnvR C H0 Ox σ Γ H → ∀ Q : List V → Hp → Prop,
  (match r with
    | .ok ds => ∀ vs H', Stp (ow C.fl Ox σ Γ) H H' → RpL C.K (hm m (ow C.fl Ox σ Γ) Ox H') ds vs → Q vs H'
    | .error e => ∀ H', Stp (ow C.fl Ox σ Γ) H H' → ErW C W σ e H') → ta σ H Q
/-- a test -/
abbrev PTx := Ga → Option (Except Er Bool)
def EvT (C : Cf) (W : WX) (tt : TT) (f : PTx) : Prop := ∀ Γ r, f Γ = some r → ∀ H0 Ox σ H, EnvR C H0 Ox σ Γ H → ∀ Q : Bool → Hp → Prop,
  (match r with
    | .ok b => ∀ H', Stp (ow C.fl Ox σ Γ) H H' → Q b H'
    | .error e => ∀ H', Stp (ow C.fl Ox σ Γ) H H' → ErW C W σ e H') → tt σ H Q

structure PP (X : Cx) (C : Cf) (W : WX) (m : Md) (e : Expr) (te : TE) (f : PX) : Prop where
  pe : PE X e te
  ev : Ev C W m te f
structure PF (X : Cx) (C : Cf) (W : WX) (m : Md) (e : Expr) (te : TE) (f : PX) : Prop where
  pe : PE X e te
  ev : EvF C W m te f
structure PAr (X : Cx) (C : Cf) (W : WX) (m : Md) (es : List Expr) (ta : TA) (f : PAx) : Prop where
  pe : PA X es ta
  ev : EvA C W m ta f
structure PTt (X : Cx) (C : Cf) (W : WX) (e : Expr) (tt : TT) (f : PTx) : Prop where
  pe : PT X e tt
  ev : EvT C W tt f

section
variable {X : Cx} {C : Cf} {W : WX} {m : Md} {e a b : Expr} {te ta tb : TE} {f fa fb : PX}

theorem ev_to (h : Ev C W .st te f) : Ev C W m te f := fun Γ r hr H0 Ox σ H E Q q => h Γ r hr H0 Ox σ H E Q (by
  cases r with
  | ok d => exact fun v H' s p => q v H' s (p.sm (hm_lt (s.ows E.ows)))
  | error x => exact q)
/-- what may be stored may be read -/
theorem PP.rd (h : PP X C W .st e te f) : PP X C W m e te f := ⟨h.pe, ev_to h.ev⟩
/-- data without lists may be stored -/
def onlyFlat (f : PX) : PX := fun Γ => match f Γ with
  | some (.ok d) => if flat d then some (.ok d) else none
  | r => r
theorem PP.st (h : PP X C W .rd e te f) : PP X C W m e te (onlyFlat f) := by
  refine ⟨h.pe, ev_to fun Γ r hr H0 Ox σ H E Q q => ?_⟩
  unfold onlyFlat at hr
  cases hf : f Γ with
  | none => rw [hf] at hr; cases hr
  | some r' =>
    rw [hf] at hr
    cases r' with
    | error x =>
      cases hr
      exact h.ev Γ _ hf H0 Ox σ H E Q q
    | ok d =>
      simp only at hr
      by_cases hd : flat d = true
      · rw [if_pos hd] at hr
        cases hr
        exact h.ev Γ _ hf H0 Ox σ H E Q fun v H' s p => q v H' s (rp_flat (s.mut E.mut) d v hd p)
      · rw [if_neg hd] at hr
        cases hr
theorem evF_ev (h : EvF C W m te f) : Ev C W m te f := fun Γ r hr H0 Ox σ H E Q q => h Γ r hr H0 Ox σ H E Q (by
  cases r with
  | ok d =>
    intro l o H' s hl c
    have mu := s.ows E.ows
    refine q _ _ (s.trans (.new mu.mu hl)) ?_
    rw [hm_new mu hl]
    exact (c.sm (Sm.new (hm_none mu hl))).rp upd_same
  | error x => exact q)
theorem PF.pp (h : PF X C W m e te f) : PP X C W m e te f := ⟨h.pe, evF_ev h.ev⟩

/-! ### names and constants -/
def fV (i : Nat) : PX := fun Γ => match Γ[i]? with
  | some (some d) => some (.ok d)
  | _ => none
def fC (d : PyData) : PX := fun _ => some (.ok d)
theorem fV_some {i : Nat} {Γ : Ga} {r : Res} (h : fV i Γ = some r) : ∃ d, Γ[i]? = some (some d) ∧ r = .ok d := by
  unfold fV at h
  split at h
  · rename_i d hd
    cases h
    exact ⟨d, hd, rfl⟩
  · cases h
theorem pp_var (i : Nat) {x : Str} {pos : Pos} (hfl : C.fl.contains i = false := by rfl) (hN : X.N[i]? = some x := by rfl) (hv : Vis X.env.scope x := by first | exact Or.inl rfl | exact Or.inr (Or.inl rfl) | exact Or.inr (Or.inr rfl)) (hd : (x == ("__debug__" : Str)) = false := by decide)
    (hcd : (x == ("__classdict__" : Str)) = false := by decide) : PP X C W m (.Name x pos) (tVar i) (fV i) := by
  refine ⟨pe_var hN hv hd hcd, ev_to fun Γ r hr H0 Ox σ H E Q q => ?_⟩
  obtain ⟨d, h1, rfl⟩ := fV_some hr
  obtain ⟨v, h2, h3⟩ := E.val i d h1 (nfl hfl)
  exact ⟨v, h2, q v H (.refl _ _) h3⟩
/-- what may be returned may be read -/
theorem PP.rd' (h : PP X C W .mid e te f) : PP X C W .rd e te f := ⟨h.pe, fun Γ r hr H0 Ox σ H E Q q => h.ev Γ r hr H0 Ox σ H E Q (by
  cases r with
  | ok d => exact fun v H' s p => q v H' s (p.sm (mask_le _ _))
  | error x => exact q)⟩
/-- a slot that is changed in place, read -/
theorem pp_own (i : Nat) {x : Str} {pos : Pos} (hN : X.N[i]? = some x := by rfl) (hv : Vis X.env.scope x := by first | exact Or.inl rfl | exact Or.inr (Or.inl rfl) | exact Or.inr (Or.inr rfl)) (hd : (x == ("__debug__" : Str)) = false := by decide)
    (hcd : (x == ("__classdict__" : Str)) = false := by decide) : PP X C W .mid (.Name x pos) (tVar i) (fV i) := by
  refine ⟨pe_var hN hv hd hcd, fun Γ r hr H0 Ox σ H E Q q => ?_⟩
  obtain ⟨d, h1, rfl⟩ := fV_some hr
  by_cases n : i ∈ C.fl
  · obtain ⟨l, o, e1, e2, e3, e4⟩ := E.own i d h1 n
    exact ⟨.ref l, e1, q _ H (.refl _ _) ((e3.sm (mask_sub E.ows.sub)).rp ((mask_out e4).trans e2))⟩
  · obtain ⟨v, e1, e2⟩ := E.val i d h1 n
    exact ⟨v, e1, q v H (.refl _ _) (e2.sm (mask_sub E.ows.sub))⟩
theorem ev_c {d : PyData} {v : V} (h : ∀ H, Rp C.K H d v) : Ev C W m (tC v) (fC d) := fun Γ r hr H0 Ox σ H E Q q => by
  cases hr
  exact q v H (.refl _ _) (h _)
theorem pp_int {i j pos} : PP X C W m (.Constant (.int i) j pos) (tC (.int i)) (fC (.int i)) := ⟨pe_int, ev_c fun H => by simp only [Rp]⟩
theorem pp_bl {b j pos} : PP X C W m (.Constant (.bool b) j pos) (tC (.bl b)) (fC (.bool b)) := ⟨pe_bl, ev_c fun H => by simp only [Rp]⟩
theorem pp_non {j pos} : PP X C W m (.Constant .none j pos) (tC .non) (fC .none) := ⟨pe_non, ev_c fun H => by simp only [Rp]⟩
theorem pp_str {x j pos} : PP X C W m (.Constant (.str x) j pos) (tC (.str x)) (fC (.str x)) := ⟨pe_str, ev_c fun H => by simp only [Rp]⟩
/-- a module's constant -/
theorem pp_glob {x : Str} {pos : Pos} {d : PyData} {v : V} {u : Value} (hm : X.mg x = some u) (r : RelV v u) (h : ∀ H, Rp C.K H d v) (hg : Gl X x := by rfl) (hd : (x == ("__debug__" : Str)) = false := by decide) : PP X C W m (.Name x pos) (tC v) (fC d) := ⟨pe_glob hg hm r hd, ev_c h⟩

/-! ### two operands, one operand -/
def b1 (f : PX) (g : PyData → Option PyData) : PX := fun Γ => match f Γ with
  | some (.ok d) => (g d).map .ok
  | r => r
def b2 (f h : PX) (g : PyData → PyData → Option PyData) : PX := fun Γ => match f Γ with
  | some (.ok d) => (match h Γ with
    | some (.ok e) => (g d e).map .ok
    | r => r)
  | r => r
/-- one value behind another -/
theorem ev_two {R : V → V → Hp → Prop} {H0 H : Hp} {Ox : List Addr} {σ : L2.St} {Γ : Ga} {r : Res} {g : PyData → PyData → Option PyData} (ha : Ev C W m ta fa) (hb : Ev C W m tb fb) (E : EnvR C H0 Ox σ Γ H) (hr : b2 fa fb g Γ = some r)
    (h : ∀ d e z, g d e = some z → r = .ok z → ∀ x y H2, Stp (ow C.fl Ox σ Γ) H H2 → EnvR C H0 Ox σ Γ H2 → Rp C.K (hm m (ow C.fl Ox σ Γ) Ox H2) d x → Rp C.K (hm m (ow C.fl Ox σ Γ) Ox H2) e y → R x y H2)
    (he : ∀ x, r = .error x → ∀ H', Stp (ow C.fl Ox σ Γ) H H' → ErW C W σ x H') : ta σ H fun x H1 => tb σ H1 fun y H2 => R x y H2 := by
  unfold b2 at hr
  cases h1 : fa Γ with
  | none => rw [h1] at hr; cases hr
  | some r1 =>
    rw [h1] at hr
    cases r1 with
    | error x =>
      cases hr
      exact ha Γ _ h1 H0 Ox σ H E _ (he x rfl)
    | ok d =>
      refine ha Γ _ h1 H0 Ox σ H E _ fun v H1 s1 p1 => ?_
      simp only at hr
      have E1 := E.step s1
      cases h2 : fb Γ with
      | none => rw [h2] at hr; cases hr
      | some r2 =>
        rw [h2] at hr
        cases r2 with
        | error x =>
          cases hr
          exact hb Γ _ h2 H0 Ox σ H1 E1 _ fun H' s => he x rfl H' (s1.trans s)
        | ok e =>
          refine hb Γ _ h2 H0 Ox σ H1 E1 _ fun u H2 s2 p2 => ?_
          simp only at hr
          cases h3 : g d e with
          | none => rw [h3] at hr; cases hr
          | some z =>
            rw [h3] at hr
            have er : r = .ok z := by cases hr; rfl
            exact h d e z h3 er v u H2 (s1.trans s2) (E1.step s2) (p1.sm (hm_sm s2 E1.ows)) p2
/-- an operator, by what it makes of two data -/
def RB (K : PySem.W.Frag) (m : Md) (r : R2) (g : PyData → PyData → Option PyData) : Prop := ∀ d e z, g d e = some z → ∀ O Ox x y H, Ows O Ox H → Rp K (hm m O Ox H) d x → Rp K (hm m O Ox H) e y → ∀ Q : VK,
  (∀ v H', Stp O H H' → Rp K (hm m O Ox H') z v → Q v H') → r x y H Q
theorem ev_bin {r : R2} {g : PyData → PyData → Option PyData} (ha : Ev C W m ta fa) (hb : Ev C W m tb fb) (hr : RB C.K m r g) : Ev C W m (tOp r ta tb) (b2 fa fb g) := fun Γ r hr' H0 Ox σ H E Q q => by
  refine ev_two ha hb E hr' (fun d e z hz er x y H2 s E2 px py => ?_) fun x ex => ?_
  · subst er
    exact hr d e z hz _ _ x y H2 E2.ows px py Q fun v H' s' p => q v H' (s.trans s') p
  · subst ex
    exact q
def RBF (K : PySem.W.Frag) (m : Md) (r : R2) (g : PyData → PyData → Option PyData) : Prop := ∀ d e z, g d e = some z → ∀ O Ox x y H, Ows O Ox H → Rp K (hm m O Ox H) d x → Rp K (hm m O Ox H) e y → ∀ Q : VK,
  (∀ l o H', Stp O H H' → H' l = none → Cel K (hm m O Ox H') z o → Q (.ref l) (upd H' l o)) → r x y H Q
theorem ev_binF {r : R2} {g : PyData → PyData → Option PyData} (ha : Ev C W m ta fa) (hb : Ev C W m tb fb) (hr : RBF C.K m r g) : EvF C W m (tOp r ta tb) (b2 fa fb g) := fun Γ r hr' H0 Ox σ H E Q q => by
  refine ev_two ha hb E hr' (fun d e z hz er x y H2 s E2 px py => ?_) fun x ex => ?_
  · subst er
    exact hr d e z hz _ _ x y H2 E2.ows px py Q fun l o H' s' hl p => q l o H' (s.trans s') hl p
  · subst ex
    exact q
theorem ev_one {R : V → Hp → Prop} {H0 H : Hp} {Ox : List Addr} {σ : L2.St} {Γ : Ga} {r : Res} {g : PyData → Option PyData} (ha : Ev C W m ta fa) (E : EnvR C H0 Ox σ Γ H) (hr : b1 fa g Γ = some r)
    (h : ∀ d z, g d = some z → r = .ok z → ∀ x H2, Stp (ow C.fl Ox σ Γ) H H2 → EnvR C H0 Ox σ Γ H2 → Rp C.K (hm m (ow C.fl Ox σ Γ) Ox H2) d x → R x H2)
    (he : ∀ x, r = .error x → ∀ H', Stp (ow C.fl Ox σ Γ) H H' → ErW C W σ x H') : ta σ H R := by
  unfold b1 at hr
  cases h1 : fa Γ with
  | none => rw [h1] at hr; cases hr
  | some r1 =>
    rw [h1] at hr
    cases r1 with
    | error x =>
      cases hr
      exact ha Γ _ h1 H0 Ox σ H E _ (he x rfl)
    | ok d =>
      refine ha Γ _ h1 H0 Ox σ H E _ fun v H1 s1 p1 => ?_
      simp only at hr
      cases h3 : g d with
      | none => rw [h3] at hr; cases hr
      | some z =>
        rw [h3] at hr
        have er : r = .ok z := by cases hr; rfl
        exact h d z h3 er v H1 s1 (E.step s1) p1
def RU (K : PySem.W.Frag) (m : Md) (r : V → Hp → VK → Prop) (g : PyData → Option PyData) : Prop := ∀ d z, g d = some z → ∀ O Ox x H, Ows O Ox H → Rp K (hm m O Ox H) d x → ∀ Q : VK, (∀ v H', Stp O H H' → Rp K (hm m O Ox H') z v → Q v H') → r x H Q
theorem ev_un {ro : V → Hp → VK → Prop} {g : PyData → Option PyData} (ha : Ev C W m ta fa) (hr : RU C.K m ro g) : Ev C W m (tUn ro ta) (b1 fa g) := fun Γ r hr' H0 Ox σ H E Q q => by
  show ta σ H fun x H1 => ro x H1 Q
  refine ev_one ha E hr' (fun d z hz er x H2 s E2 px => ?_) fun x ex => ?_
  · subst er
    exact hr d z hz _ _ x H2 E2.ows px Q fun v H' s' p => q v H' (s.trans s') p
  · subst ex
    exact q
end
end Z

set_option Elab.async false
set_option linter.all false
set_option maxRecDepth 100000
set_option maxHeartbeats 4000000
namespace Z
open PySem PySem.Spec PyProof.Rows L2

/-! ## operators over plain data -/
/-- the most that a list, a tuple, a text may have here -/
abbrev big : Nat := 1000000
theorem big_ok {n : Nat} (h : n ≤ big) : n ≤ sizeLine := Nat.le_trans h (by decide)
section
variable {X : Cx}
/-- list + list, wherever they stand -/
def rCatL (K : PySem.W.Frag) : R2 := fun x y H Q => ∃ a b xs ys, x = .ref a ∧ y = .ref b ∧ SqL K H a xs ∧ SqL K H b ys ∧ xs.length + ys.length ≤ sizeLine ∧ ∀ p, H p = none → Q (.ref p) (upd H p (.lst (xs ++ ys)))
theorem op_catL : OpR X (binaryOp .Add) (rCatL X.K) := by
  intro pins s σ H x y v u Q I rx ry h
  obtain ⟨a, b, xs, ys, rfl, rfl, h1, h2, hz, q⟩ := h
  cases rx ; cases ry
  obtain ⟨its, r1, ⟨⟨c1, d1, da1, sl1⟩, n1, e1, q1, q2, q3⟩, z1⟩ := I.list h1
  obtain ⟨jts, r2, ⟨⟨c2, d2, da2, sl2⟩, n2, e2, p1, p2, p3⟩, z2⟩ := I.list h2
  simp only at q1 q2 q3 p1 p2 p3
  subst q1 q2 q3 p1 p2 p3
  have l1 := r1.length ; have l2 := r2.length
  refine concat_meets ⟨_, e1, rfl⟩ ⟨_, e2, rfl⟩ noFill_list_add seq_list_add PySem.F.slot_list_add PySem.F.entry_list_add (PySem.F.args_list_add_2 _ _) (list_addW a b its.toArray jts.toArray n1 n2 none none sl1 sl2 (by rw [List.size_toArray, List.size_toArray]; omega)) ⟨e1, e2, ?_⟩
  have ea : its.toArray ++ jts.toArray = (its ++ jts).toArray := by simp
  rw [ea]
  exact ⟨.ref _, _, I.lnew (t' := s.toks) (r1.append r2) (by rw [List.length_append]; omega), rfl, q _ I.fresh⟩
/-- any + -/
def rAddX (K : PySem.W.Frag) : R2 := fun x y H Q => rI0 (fun i j => .int (i + j)) x y H Q ∨ (∃ i j, x = .str i ∧ y = .str j ∧ i.length + j.length ≤ sizeLine ∧ Q (.str (i ++ j)) H) ∨ rCatA K x y H Q ∨ rCatL K x y H Q
theorem op_addX : OpR X (binaryOp .Add) (rAddX X.K) := op_add.or (op_add_str.or (op_catA.or op_catL))
def gAdd : PyData → PyData → Option PyData
  | .int i, .int j => some (.int (i + j))
  | .str a, .str b => if a.length + b.length ≤ big then some (.str (a ++ b)) else none
  | .tuple xs, .tuple ys => if xs.length + ys.length ≤ big then some (.tuple (xs ++ ys)) else none
  | .list xs, .list ys => if xs.length + ys.length ≤ big then some (.list (xs ++ ys)) else none
  | _, _ => none
theorem rp_tup {K : PySem.W.Frag} {H : Hp} {ds : List PyData} {v : V} (h : Rp K H (.tuple ds) v) : ∃ a xs, v = .ref a ∧ SqT K H a xs ∧ RpL K H ds xs := by simpa only [Rp] using h
theorem rp_lst {K : PySem.W.Frag} {H : Hp} {ds : List PyData} {v : V} (h : Rp K H (.list ds) v) : ∃ a xs, v = .ref a ∧ SqL K H a xs ∧ RpL K H ds xs := by simpa only [Rp] using h
theorem rp_int {K : PySem.W.Frag} {H : Hp} {i : Int} {v : V} (h : Rp K H (.int i) v) : v = .int i := by simpa only [Rp] using h
theorem rp_str {K : PySem.W.Frag} {H : Hp} {i : Str} {v : V} (h : Rp K H (.str i) v) : v = .str i := by simpa only [Rp] using h
theorem rp_bool {K : PySem.W.Frag} {H : Hp} {i : Bool} {v : V} (h : Rp K H (.bool i) v) : v = .bl i := by simpa only [Rp] using h
theorem rp_none {K : PySem.W.Frag} {H : Hp} {v : V} (h : Rp K H .none v) : v = .non := by simpa only [Rp] using h
theorem mk_int {K : PySem.W.Frag} {H : Hp} {i : Int} : Rp K H (.int i) (.int i) := by simp only [Rp]
theorem mk_str {K : PySem.W.Frag} {H : Hp} {i : Str} : Rp K H (.str i) (.str i) := by simp only [Rp]
theorem mk_bool {K : PySem.W.Frag} {H : Hp} {i : Bool} : Rp K H (.bool i) (.bl i) := by simp only [Rp]
theorem mk_none {K : PySem.W.Frag} {H : Hp} : Rp K H .none .non := by simp only [Rp]
theorem mk_tup {K : PySem.W.Frag} {H : Hp} {ds : List PyData} {a : Addr} {xs : List V} (h : SqT K H a xs) (r : RpL K H ds xs) : Rp K H (.tuple ds) (.ref a) := by simp only [Rp]; exact ⟨a, xs, rfl, h, r⟩
theorem mk_lst {K : PySem.W.Frag} {H : Hp} {ds : List PyData} {a : Addr} {xs : List V} (h : SqL K H a xs) (r : RpL K H ds xs) : Rp K H (.list ds) (.ref a) := by simp only [Rp]; exact ⟨a, xs, rfl, h, r⟩
/-- a new tuple, a new list -/
theorem new_tup {K : PySem.W.Frag} {m : Md} {O Ox : List Addr} {H : Hp} {ds : List PyData} {xs : List V} {p : Addr} (mu : Ows O Ox H) (hp : H p = none) (r : RpL K (hm m O Ox H) ds xs) : Rp K (hm m O Ox (upd H p (.tup xs))) (.tuple ds) (.ref p) := by
  rw [hm_new mu hp]
  exact mk_tup (.inl (.inl upd_same)) (RpL.sm (.new (hm_none mu hp)) _ _ r)
theorem new_lst {K : PySem.W.Frag} {m : Md} {O Ox : List Addr} {H : Hp} {ds : List PyData} {xs : List V} {p : Addr} (mu : Ows O Ox H) (hp : H p = none) (r : RpL K (hm m O Ox H) ds xs) : Rp K (hm m O Ox (upd H p (.lst xs))) (.list ds) (.ref p) := by
  rw [hm_new mu hp]
  exact mk_lst (.inl (.inl upd_same)) (RpL.sm (.new (hm_none mu hp)) _ _ r)
theorem hm_sqT {K : PySem.W.Frag} {m : Md} {O Ox : List Addr} {H : Hp} {a : Addr} {xs : List V} (h : SqT K (hm m O Ox H) a xs) : SqT K H a xs := sqT_sm hm_le h
theorem hm_sqL {K : PySem.W.Frag} {m : Md} {O Ox : List Addr} {H : Hp} {a : Addr} {xs : List V} (h : SqL K (hm m O Ox H) a xs) : SqL K H a xs := sqL_sm hm_le h
theorem rb_add {K : PySem.W.Frag} {m : Md} : RB K m (rAddX K) gAdd := by
  intro d e z hz O Ox x y H mu px py Q q
  unfold gAdd at hz
  split at hz
  · cases hz
    rw [rp_int px, rp_int py]
    exact .inl ⟨_, _, rfl, rfl, q _ _ (.refl _ _) mk_int⟩
  · rename_i a b
    by_cases h : a.length + b.length ≤ big
    · rw [if_pos h] at hz ; cases hz
      rw [rp_str px, rp_str py]
      exact .inr (.inl ⟨_, _, rfl, rfl, big_ok h, q _ _ (.refl _ _) mk_str⟩)
    · rw [if_neg h] at hz ; cases hz
  · rename_i ds es
    by_cases h : ds.length + es.length ≤ big
    · rw [if_pos h] at hz ; cases hz
      obtain ⟨a, xs, rfl, h1, h2⟩ := rp_tup px
      obtain ⟨b, ys, rfl, h3, h4⟩ := rp_tup py
      have l1 := rpl_len h2 ; have l2 := rpl_len h4
      have app := rpl_app h2 h4
      refine .inr (.inr (.inl ⟨a, b, xs, ys, rfl, rfl, hm_sqT h1, hm_sqT h3, big_ok (by omega), fun hx => ?_, fun _ hy => ?_, fun _ _ p hp => ?_⟩))
      · subst hx
        exact q _ _ (.refl _ _) (mk_tup h3 app)
      · subst hy
        rw [List.append_nil] at app
        exact q _ _ (.refl _ _) (mk_tup h1 app)
      · exact q _ _ (.new mu.mu hp) (new_tup mu hp app)
    · rw [if_neg h] at hz ; cases hz
  · rename_i ds es
    by_cases h : ds.length + es.length ≤ big
    · rw [if_pos h] at hz ; cases hz
      obtain ⟨a, xs, rfl, h1, h2⟩ := rp_lst px
      obtain ⟨b, ys, rfl, h3, h4⟩ := rp_lst py
      have l1 := rpl_len h2 ; have l2 := rpl_len h4
      exact .inr (.inr (.inr ⟨a, b, xs, ys, rfl, rfl, hm_sqL h1, hm_sqL h3, big_ok (by omega), fun p hp => q _ _ (.new mu.mu hp) (new_lst mu hp (rpl_app h2 h4))⟩))
    · rw [if_neg h] at hz ; cases hz
  · cases hz
def gAddF : PyData → PyData → Option PyData
  | .list xs, .list ys => if xs.length + ys.length ≤ big then some (.list (xs ++ ys)) else none
  | _, _ => none
theorem rb_addF {K : PySem.W.Frag} {m : Md} : RBF K m (rCatL K) gAddF := by
  intro d e z hz O Ox x y H mu px py Q q
  unfold gAddF at hz
  split at hz
  · rename_i ds es
    by_cases h : ds.length + es.length ≤ big
    · rw [if_pos h] at hz ; cases hz
      obtain ⟨a, xs, rfl, h1, h2⟩ := rp_lst px
      obtain ⟨b, ys, rfl, h3, h4⟩ := rp_lst py
      have l1 := rpl_len h2 ; have l2 := rpl_len h4
      exact ⟨a, b, xs, ys, rfl, rfl, hm_sqL h1, hm_sqL h3, big_ok (by omega), fun p hp => q p _ H (.refl _ _) hp ⟨_, rfl, rpl_app h2 h4⟩⟩
    · rw [if_neg h] at hz ; cases hz
  · cases hz

/-! ### whole numbers -/
/-- an operator on whole numbers -/
def gI (g : Int → Int → Option PyData) : PyData → PyData → Option PyData
  | .int i, .int j => g i j
  | _, _ => none
theorem rb_I {K : PySem.W.Frag} {m : Md} {Cc : Int → Int → Prop} [∀ i j, Decidable (Cc i j)] {gv : Int → Int → V} {gd : Int → Int → PyData} (h : ∀ i j H, Rp K H (gd i j) (gv i j)) : RB K m (rI Cc gv) (gI fun i j => if Cc i j then some (gd i j) else none) := by
  intro d e z hz O Ox x y H mu px py Q q
  unfold gI at hz
  split at hz
  · rename_i i j
    dsimp only at hz
    by_cases hc : Cc i j
    · rw [if_pos hc] at hz ; cases hz
      rw [rp_int px, rp_int py]
      exact ⟨i, j, rfl, rfl, hc, q _ _ (.refl _ _) (h i j _)⟩
    · rw [if_neg hc] at hz ; cases hz
  · cases hz
theorem rb_I0 {K : PySem.W.Frag} {m : Md} {gv : Int → Int → V} {gd : Int → Int → PyData} (h : ∀ i j H, Rp K H (gd i j) (gv i j)) : RB K m (rI0 gv) (gI fun i j => some (gd i j)) := by
  intro d e z hz O Ox x y H mu px py Q q
  unfold gI at hz
  split at hz
  · rename_i i j
    cases hz
    rw [rp_int px, rp_int py]
    exact ⟨i, j, rfl, rfl, q _ _ (.refl _ _) (h i j _)⟩
  · cases hz
abbrev gSub := gI fun i j => some (.int (i - j))
abbrev okMul (i j : Int) : Prop := (-(2 ^ 64) < i ∧ i < 2 ^ 64) ∨ (-(2 ^ 64) < j ∧ j < 2 ^ 64)
abbrev okDiv (_ j : Int) : Prop := 0 < j ∧ j < 1073741824
abbrev okMod (_ j : Int) : Prop := 0 < j
abbrev okPow (i j : Int) : Prop := 0 ≤ j ∧ j ≤ 1000000 ∧ i.natAbs < 2 ^ 64
abbrev gDiv := gI fun i j => if okDiv i j then some (.int (i / j)) else none
abbrev gMod := gI fun i j => if okMod i j then some (.int (i % j)) else none
abbrev gPow := gI fun i j => if okPow i j then some (.int (i ^ j.toNat)) else none
abbrev gLtI := gI fun i j => some (.bool (decide (i < j)))
abbrev gLeI := gI fun i j => some (.bool (decide (i ≤ j)))
abbrev gGtI := gI fun i j => some (.bool (decide (j < i)))
abbrev gGeI := gI fun i j => some (.bool (decide (j ≤ i)))

/-! ### * of two numbers, of a tuple or a list and a number -/
def rRepL (K : PySem.W.Frag) : R2 := rRep
theorem tuple_mul1W (l : Addr) (items : Array Value) (n : Nat) (dd : Option Addr) (sl : Array (Option Value)) (u : Tok) :
    Meets (Builtin.«tuple.__mul__» ⟨[.ref l, .int 1 u], []⟩) (fun _ R s => s.heap.get? l = some { cls := .type "tuple", dict := dd, data := .seq items n, slots := sl } ∧ R (.ok (.ret (Value.ref l))) s) :=
  .of_wp fun prog w A R s h => by
    obtain ⟨hp, g, d, tk, os⟩ := s
    obtain ⟨hl, h⟩ := h
    have f1 := AutoSeq1.idx_int
    have f2 := AutoSeq1.sub_tuple_tuple
    wp_walk using wpAny_loadPart' hl
    repeat (first
      | (refine wpAny_ite_false (by decide) ?_; wp_walk using wpAny_loadPart' hl)
      | (refine wpAny_ite_true (by simp) ?_; wp_walk using wpAny_loadPart' hl))
    exact ⟨_, rfl, h⟩
def rRep1 (K : PySem.W.Frag) : R2 := fun x y H Q => ∃ l xs, x = .ref l ∧ y = .int 1 ∧ SqT K H l xs ∧ Q (.ref l) H
theorem op_rep1 : OpR X (binaryOp .Mult) (rRep1 X.K) := by
  intro pins s σ H x y v u Q I rx ry h
  obtain ⟨l, xs, rfl, rfl, hT, q⟩ := h
  cases rx
  obtain ⟨t, rfl⟩ := ry
  obtain ⟨its, r, ⟨⟨cls, dd, data, sl⟩, ho, hc, n, hd⟩, hs⟩ := I.tuple hT
  simp only at hc hd
  subst hc hd
  refine wpAny_binaryOp_repeat_ref (T := "tuple") (U := "int") (by decide) ⟨_, ho, rfl⟩ (fun s' => typeIs_int s' 1 t) noFill_tuple_mul F.fills_int_mul F.slot_int_rmul repeat_tuple F.slot_int_index.lookup
    (call_meets F.slot_int_rmul (typeIs_int s 1 t) F.entry_int_rmul (F.args_int_rmul_2 _ _) (int_rmul_tuple 1 t l its.toArray n dd sl)
      ⟨ho, rfl, ⟨_, ho, rfl⟩, call_meets F.slot_tuple_mul ⟨_, ho, rfl⟩ F.entry_tuple_mul (F.args_tuple_mul_2 _ _) (tuple_mul1W l its.toArray n dd sl t) ⟨ho, ?_⟩⟩)
  exact ⟨.ref l, H, I, rfl, q⟩
def rMulX (K : PySem.W.Frag) : R2 := fun x y H Q => rI CMul (fun i j => .int (i * j)) x y H Q ∨ rRepT K x y H Q ∨ rRep1 K x y H Q
theorem op_mulX : OpR X (binaryOp .Mult) (rMulX X.K) := op_mul.or (op_repT.or op_rep1)
def gMul : PyData → PyData → Option PyData
  | .int i, .int j => if okMul i j then some (.int (i * j)) else none
  | .tuple xs, .int k => if xs ≠ [] ∧ 2 ≤ k ∧ k ≤ 1000 ∧ xs.length ≤ 1000 then some (.tuple (List.replicate k.toNat xs).flatten) else if k = 1 then some (.tuple xs) else none
  | _, _ => none
theorem rpl_rep {K : PySem.W.Frag} {H : Hp} {ds : List PyData} {vs : List V} (h : RpL K H ds vs) : ∀ n : Nat, RpL K H (List.replicate n ds).flatten (List.replicate n vs).flatten
  | 0 => rpl_nil
  | n + 1 => by
    rw [List.replicate_succ, List.replicate_succ, List.flatten_cons, List.flatten_cons]
    exact rpl_app h (rpl_rep h n)
instance (xs : List PyData) : Decidable (xs ≠ []) := match xs with
  | [] => .isFalse (fun h => h rfl)
  | _ :: _ => .isTrue (fun h => by cases h)
theorem rb_mul {K : PySem.W.Frag} {m : Md} : RB K m (rMulX K) gMul := by
  intro d e z hz O Ox x y H mu px py Q q
  unfold gMul at hz
  split at hz
  · rename_i i j
    by_cases h : okMul i j
    · rw [if_pos h] at hz ; cases hz
      rw [rp_int px, rp_int py]
      exact .inl ⟨_, _, rfl, rfl, h, q _ _ (.refl _ _) mk_int⟩
    · rw [if_neg h] at hz ; cases hz
  · rename_i ds k
    by_cases h : ds ≠ [] ∧ 2 ≤ k ∧ k ≤ 1000 ∧ ds.length ≤ 1000
    · rw [if_pos h] at hz ; cases hz
      obtain ⟨a, xs, rfl, h1, h2⟩ := rp_tup px
      rw [rp_int py]
      have l1 := rpl_len h2
      refine .inr (.inl ⟨a, k, xs, rfl, rfl, hm_sqT h1, fun e => h.1 (List.eq_nil_of_length_eq_zero (by rw [l1, e]; rfl)), h.2.1, h.2.2.1, by have := h.2.2.2; omega, fun p hp => ?_⟩)
      exact q _ _ (.new mu.mu hp) (new_tup mu hp (rpl_rep h2 _))
    · rw [if_neg h] at hz
      by_cases h1 : k = 1
      · rw [if_pos h1] at hz ; cases hz
        subst h1
        obtain ⟨a, xs, rfl, h2, h3⟩ := rp_tup px
        rw [rp_int py]
        exact .inr (.inr ⟨a, xs, rfl, rfl, hm_sqT h2, q _ _ (.refl _ _) px⟩)
      · rw [if_neg h1] at hz ; cases hz
  · cases hz
/-- a new list times a number -/
def gRepF : PyData → PyData → Option PyData
  | .list xs, .int k => if -(2 ^ 63) ≤ k ∧ k < 2 ^ 63 ∧ xs.length * k.toNat ≤ big then some (.list (List.replicate k.toNat xs).flatten) else none
  | _, _ => none

/-! ### == and != -/
mutual
theorem rp_dp {K : PySem.W.Frag} {H : Hp} : ∀ (d : PyData) (v : V), d.canLay0 = true → Rp K H d v → Dp K H v d
  | .none, _, _, h => by rw [rp_none h]; exact .non
  | .bool b, _, _, h => by rw [rp_bool h]; exact .bl b
  | .int i, _, _, h => by rw [rp_int h]; exact .int i
  | .str i, _, _, h => by rw [rp_str h]; exact .str i
  | .list ds, _, f, h => by
    obtain ⟨a, xs, rfl, h2, h3⟩ := rp_lst h
    exact .lst h2 (rpl_dp ds xs (by simpa [PyData.canLay0] using f) h3)
  | .tuple ds, _, f, h => by
    obtain ⟨a, xs, rfl, h2, h3⟩ := rp_tup h
    exact .tup h2 (rpl_dp ds xs (by simpa [PyData.canLay0] using f) h3)
  | .dict _, _, f, _ => by simp [PyData.canLay0] at f
theorem rpl_dp {K : PySem.W.Frag} {H : Hp} : ∀ (ds : List PyData) (vs : List V), PyData.canLayAll0 ds = true → RpL K H ds vs → DpAll K H vs ds
  | [], _, _, h => by simp only [RpL] at h; subst h; exact .nil
  | d :: ds, _, f, h => by
    simp only [RpL] at h
    obtain ⟨v, r, rfl, h2, h3⟩ := h
    have f' : d.canLay0 = true ∧ PyData.canLayAll0 ds = true := by simpa [PyData.canLayAll0] using f
    exact .cons (rp_dp d v f'.1 h2) (rpl_dp ds r f'.2 h3)
end
/-- == of two data -/
def gEqB : PyData → PyData → Option Bool
  | .int i, .int j => some (decide (i = j))
  | .str i, .str j => some (decide (i = j))
  | .bool i, .bool j => some (decide (i = j))
  | .none, .none => some true
  | .none, .str _ => some false
  | .str _, .none => some false
  | .none, .int _ => some false
  | .int _, .none => some false
  | .str _, .int _ => some false
  | .int _, .str _ => some false
  | d, e => if SeqAt.shaped d && SeqAt.shaped e then some (PyData.eqv d e) else none
def gEq (d e : PyData) : Option PyData := (gEqB d e).map .bool
def gNe (d e : PyData) : Option PyData := (gEqB d e).map fun b => .bool (!b)
def rEqX (K : PySem.W.Frag) : R2 := fun x y H Q => rEq x y H Q ∨ rEqD K x y H Q
def rNeX (K : PySem.W.Frag) : R2 := fun x y H Q => rNe x y H Q ∨ rNeD K x y H Q
theorem op_eqX (hu : X.A.units + 200 < cLine) : OpR X (compareOp .Eq) (rEqX X.K) := op_eq.or (op_eqD (by omega))
theorem op_neX (hu : X.A.units + 200 < cLine) : OpR X (compareOp .NotEq) (rNeX X.K) := op_ne.or (op_neD (by omega))
theorem eq_cases {K : PySem.W.Frag} {H : Hp} {d e : PyData} {b : Bool} {x y : V} (h : gEqB d e = some b) (px : Rp K H d x) (py : Rp K H e y) :
    (scal x y = true ∧ decide (x = y) = b) ∨ (Dp K H x d ∧ Dp K H y e ∧ SeqAt.shaped d = true ∧ SeqAt.shaped e = true ∧ PyData.eqv d e = b) := by
  unfold gEqB at h
  split at h
  · cases h
    rw [rp_int px, rp_int py]
    exact .inl ⟨rfl, by simp⟩
  · cases h
    rw [rp_str px, rp_str py]
    exact .inl ⟨rfl, by simp⟩
  · cases h
    rw [rp_bool px, rp_bool py]
    exact .inl ⟨rfl, by simp⟩
  · cases h
    rw [rp_none px, rp_none py]
    exact .inl ⟨rfl, by simp⟩
  · cases h
    rw [rp_none px, rp_str py]
    exact .inl ⟨rfl, by simp⟩
  · cases h
    rw [rp_str px, rp_none py]
    exact .inl ⟨rfl, by simp⟩
  · cases h
    rw [rp_none px, rp_int py]
    exact .inl ⟨rfl, by simp⟩
  · cases h
    rw [rp_int px, rp_none py]
    exact .inl ⟨rfl, by simp⟩
  · cases h
    rw [rp_str px, rp_int py]
    exact .inl ⟨rfl, by simp⟩
  · cases h
    rw [rp_int px, rp_str py]
    exact .inl ⟨rfl, by simp⟩
  · by_cases hc : (SeqAt.shaped d && SeqAt.shaped e) = true
    · rw [if_pos hc] at h ; cases h
      rw [Bool.and_eq_true] at hc
      exact .inr ⟨rp_dp d x (SeqAt.canLay_of_shaped hc.1) px, rp_dp e y (SeqAt.canLay_of_shaped hc.2) py, hc.1, hc.2, rfl⟩
    · rw [if_neg hc] at h ; cases h
theorem rb_eq {K : PySem.W.Frag} {m : Md} : RB K m (rEqX K) gEq := by
  intro d e z hz O Ox x y H mu px py Q q
  unfold gEq at hz
  cases hb : gEqB d e with
  | none => rw [hb] at hz ; cases hz
  | some b =>
    rw [hb] at hz ; cases hz
    rcases eq_cases hb (px.sm hm_le) (py.sm hm_le) with ⟨h1, h2⟩ | ⟨h1, h2, h3, h4, h5⟩
    · exact .inl ⟨h1, by rw [h2]; exact q _ _ (.refl _ _) mk_bool⟩
    · exact .inr ⟨d, e, h1, h2, h3, h4, by rw [h5]; exact q _ _ (.refl _ _) mk_bool⟩
theorem rb_ne {K : PySem.W.Frag} {m : Md} : RB K m (rNeX K) gNe := by
  intro d e z hz O Ox x y H mu px py Q q
  unfold gNe at hz
  cases hb : gEqB d e with
  | none => rw [hb] at hz ; cases hz
  | some b =>
    rw [hb] at hz ; cases hz
    rcases eq_cases hb (px.sm hm_le) (py.sm hm_le) with ⟨h1, h2⟩ | ⟨h1, h2, h3, h4, h5⟩
    · exact .inl ⟨h1, by rw [h2]; exact q _ _ (.refl _ _) mk_bool⟩
    · exact .inr ⟨d, e, h1, h2, h3, h4, by rw [h5]; exact q _ _ (.refl _ _) mk_bool⟩
end
end Z

set_option Elab.async false
set_option linter.all false
set_option maxRecDepth 100000
set_option maxHeartbeats 4000000
namespace Z
open PySem PySem.Spec PyProof.Rows L2

/-! ## rules: an expression, its reading, what it gives -/
/-- where the code runs -/
structure On (X : Cx) (C : Cf) (k : Nat) : Prop where
  K : X.K = C.K
  mg : X.mg = C.mg
  un : X.A.units + 200 < cLine
  rm : X.calm = true → Room k X.A
  nd : X.N.Nodup
/-- as far as a target asks -/
structure OnK (X : Cx) (C : Cf) : Prop where
  K : X.K = C.K
  nd : X.N.Nodup
theorem On.k {X : Cx} {C : Cf} {k : Nat} (o : On X C k) : OnK X C := ⟨o.K, o.nd⟩
theorem On.mk' {X : Cx} {C : Cf} {k : Nat} (hK : X.K = C.K) (hm : X.mg = C.mg) (r : Room k X.A) (nd : X.N.Nodup) : On X C k := ⟨hK, hm, by have := r.un; omega, fun _ => r, nd⟩
theorem On.le {X : Cx} {C : Cf} {j k : Nat} (o : On X C k) (h : j ≤ k) : On X C j := ⟨o.K, o.mg, o.un, fun c => (o.rm c).mono h, o.nd⟩
theorem On.tr {X : Cx} {C : Cf} {k : Nat} (o : On X C k) {pn : List (Addr × Obj)} {xe : Value → Shared → Prop} : On (X.tr pn xe) C k := ⟨o.K, o.mg, o.un, o.rm, o.nd⟩
theorem On.suite {X : Cx} {C : Cf} {k : Nat} (o : On X C k) {a : Addr} {pn : List (Addr × Obj)} {i : Nat} {v : V} : On (X.suite a pn) { C with pin := (i, v) :: C.pin } k := ⟨o.K, o.mg, o.un, fun c => Bool.noConfusion c, o.nd⟩
theorem On.held {X : Cx} {C : Cf} {k : Nat} (o : On X C k) {i : Nat} {v : V} : On X { C with pin := (i, v) :: C.pin } k := ⟨o.K, o.mg, o.un, o.rm, o.nd⟩
section
variable {X : Cx} {C : Cf} {W : WX} {m : Md} {k : Nat} {e a b c : Expr} {te ta tb tc : TE} {f fa fb fc : PX} {pos : Pos}

theorem pp_bin {op : Operator} {r : R2} {g : PyData → PyData → Option PyData} (ho : OpR X (binaryOp op) r) (hr : RB C.K m r g) (ha : PP X C W m a ta fa) (hb : PP X C W m b tb fb) : PP X C W m (.BinOp a op b pos) (tOp r ta tb) (b2 fa fb g) := ⟨pe_op ho ha.pe hb.pe, ev_bin ha.ev hb.ev hr⟩
theorem pp_add (o : On X C k) (ha : PP X C W m a ta fa) (hb : PP X C W m b tb fb) : PP X C W m (.BinOp a .Add b pos) (tOp (rAddX C.K) ta tb) (b2 fa fb gAdd) := pp_bin (by rw [← o.K]; exact op_addX) rb_add ha hb
theorem pp_mul (o : On X C k) (ha : PP X C W m a ta fa) (hb : PP X C W m b tb fb) : PP X C W m (.BinOp a .Mult b pos) (tOp (rMulX C.K) ta tb) (b2 fa fb gMul) := pp_bin (by rw [← o.K]; exact op_mulX) rb_mul ha hb
theorem pp_sub (o : On X C k) (ha : PP X C W m a ta fa) (hb : PP X C W m b tb fb) : PP X C W m (.BinOp a .Sub b pos) (tOp (rI0 fun i j => .int (i - j)) ta tb) (b2 fa fb gSub) := pp_bin op_sub (rb_I0 fun _ _ _ => mk_int) ha hb
theorem pp_div (o : On X C k) (ha : PP X C W m a ta fa) (hb : PP X C W m b tb fb) : PP X C W m (.BinOp a .FloorDiv b pos) (tOp (rI okDiv fun i j => .int (i / j)) ta tb) (b2 fa fb gDiv) := pp_bin op_fdiv (rb_I fun _ _ _ => mk_int) ha hb
theorem pp_mod (o : On X C k) (ha : PP X C W m a ta fa) (hb : PP X C W m b tb fb) : PP X C W m (.BinOp a .Mod b pos) (tOp (rI okMod fun i j => .int (i % j)) ta tb) (b2 fa fb gMod) := pp_bin op_mod (rb_I fun _ _ _ => mk_int) ha hb
theorem pp_pow (o : On X C k) (ha : PP X C W m a ta fa) (hb : PP X C W m b tb fb) : PP X C W m (.BinOp a .Pow b pos) (tOp (rI okPow fun i j => .int (i ^ j.toNat)) ta tb) (b2 fa fb gPow) := pp_bin op_pow (rb_I fun _ _ _ => mk_int) ha hb
def gNeg : PyData → Option PyData
  | .int i => some (.int (-i))
  | _ => none
theorem pp_neg (o : On X C k) (ha : PP X C W m a ta fa) : PP X C W m (.UnaryOp .USub a pos) (tUn (rU fun i => .int (-i)) ta) (b1 fa gNeg) := ⟨pe_un un_neg ha.pe, ev_un ha.ev fun d z hz O Ox x H mu px Q q => by
  unfold gNeg at hz
  split at hz
  · cases hz
    rw [rp_int px]
    exact ⟨_, rfl, q _ _ (.refl _ _) mk_int⟩
  · cases hz⟩

/-! ### comparisons -/
theorem pp_cmp {op : CmpOp} {r : R2} {g : PyData → PyData → Option PyData} (ho : OpR X (compareOp op) r) (hr : RB C.K m r g) (ha : PP X C W m a ta fa) (hb : PP X C W m b tb fb) (hm : behindInMarks op b = false) : PP X C W m (.Compare a [op] [b] pos) (tOp r ta tb) (b2 fa fb g) := ⟨pe_cmpR ho ha.pe hb.pe hm, ev_bin ha.ev hb.ev hr⟩
theorem pp_eq (o : On X C k) (ha : PP X C W m a ta fa) (hb : PP X C W m b tb fb) : PP X C W m (.Compare a [.Eq] [b] pos) (tOp (rEqX C.K) ta tb) (b2 fa fb gEq) := pp_cmp (by rw [← o.K]; exact op_eqX o.un) rb_eq ha hb (nomark _)
theorem pp_ne (o : On X C k) (ha : PP X C W m a ta fa) (hb : PP X C W m b tb fb) : PP X C W m (.Compare a [.NotEq] [b] pos) (tOp (rNeX C.K) ta tb) (b2 fa fb gNe) := pp_cmp (by rw [← o.K]; exact op_neX o.un) rb_ne ha hb (nomark _)
abbrev rLtI : R2 := rI0 fun i j => .bl (decide (i < j))
abbrev rLeI : R2 := rI0 fun i j => .bl (decide (i ≤ j))
abbrev rGtI : R2 := rI0 fun i j => .bl (decide (j < i))
abbrev rGeI : R2 := rI0 fun i j => .bl (decide (j ≤ i))
theorem rb_lt {K : PySem.W.Frag} : RB K m rLtI gLtI := rb_I0 fun _ _ _ => mk_bool
theorem rb_le {K : PySem.W.Frag} : RB K m rLeI gLeI := rb_I0 fun _ _ _ => mk_bool
theorem rb_gt {K : PySem.W.Frag} : RB K m rGtI gGtI := rb_I0 fun _ _ _ => mk_bool
theorem rb_ge {K : PySem.W.Frag} : RB K m rGeI gGeI := rb_I0 fun _ _ _ => mk_bool
theorem pp_lt (o : On X C k) (ha : PP X C W m a ta fa) (hb : PP X C W m b tb fb) : PP X C W m (.Compare a [.Lt] [b] pos) (tOp rLtI ta tb) (b2 fa fb gLtI) := pp_cmp op_lt rb_lt ha hb (nomark _)
theorem pp_le (o : On X C k) (ha : PP X C W m a ta fa) (hb : PP X C W m b tb fb) : PP X C W m (.Compare a [.LtE] [b] pos) (tOp rLeI ta tb) (b2 fa fb gLeI) := pp_cmp op_le rb_le ha hb (nomark _)
theorem pp_gt (o : On X C k) (ha : PP X C W m a ta fa) (hb : PP X C W m b tb fb) : PP X C W m (.Compare a [.Gt] [b] pos) (tOp rGtI ta tb) (b2 fa fb gGtI) := pp_cmp op_gt rb_gt ha hb (nomark _)
theorem pp_ge (o : On X C k) (ha : PP X C W m a ta fa) (hb : PP X C W m b tb fb) : PP X C W m (.Compare a [.GtE] [b] pos) (tOp rGeI ta tb) (b2 fa fb gGeI) := pp_cmp op_ge rb_ge ha hb (nomark _)
def gIsNone : PyData → PyData → Option PyData
  | .none, .none => some (.bool true)
  | .int _, .none => some (.bool false)
  | .str _, .none => some (.bool false)
  | .bool _, .none => some (.bool false)
  | .tuple _, .none => some (.bool false)
  | .list _, .none => some (.bool false)
  | _, _ => none
def gIs (d e : PyData) : Option PyData := match d, e with
  | .bool x, .bool y => some (.bool (decide (x = y)))
  | d, e => gIsNone d e
def gNotB (d : PyData) : Option PyData := match d with
  | .bool x => some (.bool (!x))
  | _ => none
def rIsX : R2 := fun x y H Q => (∃ a b, x = .bl a ∧ y = .bl b ∧ Q (.bl (decide (a = b))) H) ∨ (y = .non ∧ Q (.bl (decide (x = .non))) H)
def rNotX : R2 := fun x y H Q => (∃ a b, x = .bl a ∧ y = .bl b ∧ Q (.bl (!decide (a = b))) H) ∨ (y = .non ∧ Q (.bl (!decide (x = .non))) H)
theorem is_cases {K : PySem.W.Frag} {H : Hp} {d e z : PyData} {x y : V} (h : gIs d e = some z) (px : Rp K H d x) (py : Rp K H e y) :
    (∃ a b, x = .bl a ∧ y = .bl b ∧ z = .bool (decide (a = b))) ∨ (y = .non ∧ z = .bool (decide (x = .non))) := by
  unfold gIs at h
  split at h
  · cases h
    exact .inl ⟨_, _, rp_bool px, rp_bool py, rfl⟩
  · unfold gIsNone at h
    split at h
    · cases h ; rw [rp_none px] ; exact .inr ⟨rp_none py, by simp⟩
    · cases h ; rw [rp_int px] ; exact .inr ⟨rp_none py, by simp⟩
    · cases h ; rw [rp_str px] ; exact .inr ⟨rp_none py, by simp⟩
    · cases h ; rw [rp_bool px] ; exact .inr ⟨rp_none py, by simp⟩
    · cases h
      obtain ⟨p, xs, rfl, _⟩ := rp_tup px
      exact .inr ⟨rp_none py, by simp⟩
    · cases h
      obtain ⟨p, xs, rfl, _⟩ := rp_lst px
      exact .inr ⟨rp_none py, by simp⟩
    · cases h
theorem pp_is (o : On X C k) (ha : PP X C W m a ta fa) (hb : PP X C W m b tb fb) : PP X C W m (.Compare a [.Is] [b] pos) (tOp rIsX ta tb) (b2 fa fb gIs) := pp_cmp (op_is_bl.or op_isN) (fun d e z hz O Ox x y H mu px py Q q => by
  rcases is_cases hz px py with ⟨u, w, rfl, rfl, rfl⟩ | ⟨rfl, rfl⟩
  · exact .inl ⟨u, w, rfl, rfl, q _ _ (.refl _ _) mk_bool⟩
  · exact .inr ⟨rfl, q _ _ (.refl _ _) mk_bool⟩) ha hb (nomark _)
def gIsNot (d e : PyData) : Option PyData := (gIs d e).bind gNotB
theorem pp_isnot (o : On X C k) (ha : PP X C W m a ta fa) (hb : PP X C W m b tb fb) : PP X C W m (.Compare a [.IsNot] [b] pos) (tOp rNotX ta tb) (b2 fa fb gIsNot) := pp_cmp (op_isnot_bl.or op_notN) (fun d e z hz O Ox x y H mu px py Q q => by
  unfold gIsNot at hz
  cases h : gIs d e with
  | none => rw [h] at hz ; cases hz
  | some w =>
    rw [h] at hz
    rcases is_cases h px py with ⟨u, w, rfl, rfl, rfl⟩ | ⟨rfl, rfl⟩
    · cases hz
      exact .inl ⟨u, w, rfl, rfl, q _ _ (.refl _ _) mk_bool⟩
    · cases hz
      exact .inr ⟨rfl, q _ _ (.refl _ _) mk_bool⟩) ha hb (nomark _)
/-- x in t, t a text -/
def gInS : PyData → PyData → Option PyData
  | .str x, .str z => (match x.cps.toList with
    | [c] => some (.bool (decide (c ∈ z.cps.toList)))
    | _ => none)
  | _, _ => none
theorem one_sign {x : Str} {c : Nat} (h : x.cps.toList = [c]) : x = ⟨#[c]⟩ := by
  obtain ⟨⟨l⟩⟩ := x
  have h : l = [c] := h
  rw [h]
theorem pp_inS (o : On X C k) (ha : PP X C W m a ta fa) (hb : PP X C W m b tb fb) (hm : behindInMarks .In b = false := by rfl) : PP X C W m (.Compare a [.In] [b] pos) (tOp rInS ta tb) (b2 fa fb gInS) := pp_cmp op_inS (fun d e z hz O Ox x y H mu px py Q q => by
  unfold gInS at hz
  split at hz
  · split at hz
    · rename_i hc
      cases hz
      rw [rp_str px, rp_str py]
      exact ⟨_, _, by rw [one_sign hc], rfl, q _ _ (.refl _ _) mk_bool⟩
    · cases hz
  · cases hz) ha hb hm
/-- two comparisons in one -/
def chainX (fa fb fc : PX) (g g' : PyData → PyData → Option PyData) : PX := fun Γ => match fa Γ with
  | some (.ok x) => (match fb Γ with
    | some (.ok y) => (match g x y with
      | some (.bool true) => (match fc Γ with
        | some (.ok z) => (g' y z).map .ok
        | r => r)
      | some (.bool false) => some (.ok (.bool false))
      | _ => none)
    | r => r)
  | r => r
theorem pp_chain {op op' : CmpOp} {r r' : R2} {g g' : PyData → PyData → Option PyData} (ho : OpR X (compareOp op) r) (ho' : OpR X (compareOp op') r') (hr : RB C.K m r g) (hr' : RB C.K m r' g') (ha : PP X C W m a ta fa) (hb : PP X C W m b tb fb) (hc : PP X C W m c tc fc)
    (hp : PE X (.Compare a [op, op'] [b, c] pos) (tChain r r' ta tb tc)) : PP X C W m (.Compare a [op, op'] [b, c] pos) (tChain r r' ta tb tc) (chainX fa fb fc g g') := by
  refine ⟨hp, fun Γ rr hrr H0 Ox σ H E Q q => ?_⟩
  unfold chainX at hrr
  cases h1 : fa Γ with
  | none => rw [h1] at hrr ; cases hrr
  | some r1 =>
    rw [h1] at hrr
    cases r1 with
    | error x =>
      cases hrr
      exact ha.ev Γ _ h1 H0 Ox σ H E _ q
    | ok x =>
      refine ha.ev Γ _ h1 H0 Ox σ H E _ fun v H1 s1 p1 => ?_
      simp only at hrr
      have E1 := E.step s1
      cases h2 : fb Γ with
      | none => rw [h2] at hrr ; cases hrr
      | some r2 =>
        rw [h2] at hrr
        cases r2 with
        | error x =>
          cases hrr
          exact hb.ev Γ _ h2 H0 Ox σ H1 E1 _ fun H' s => q H' (s1.trans s)
        | ok y =>
          refine hb.ev Γ _ h2 H0 Ox σ H1 E1 _ fun u H2 s2 p2 => ?_
          simp only at hrr
          have E2 := E1.step s2
          have p1' := p1.sm (hm_sm s2 E1.ows)
          cases h3 : g x y with
          | none => rw [h3] at hrr ; cases hrr
          | some w =>
            rw [h3] at hrr
            refine hr x y w h3 _ _ v u H2 E2.ows p1' p2 _ fun bv H3 s3 p3 => ?_
            cases w with
            | bool bb =>
              refine ⟨bb, rp_bool p3, ?_⟩
              have E3 := E2.step s3
              cases bb with
              | false =>
                cases hrr
                rw [if_neg Bool.false_ne_true]
                exact q _ _ ((s1.trans s2).trans s3) mk_bool
              | true =>
                rw [if_pos rfl]
                simp only at hrr
                cases h4 : fc Γ with
                | none => rw [h4] at hrr ; cases hrr
                | some r4 =>
                  rw [h4] at hrr
                  cases r4 with
                  | error x =>
                    cases hrr
                    exact hc.ev Γ _ h4 H0 Ox σ H3 E3 _ fun H' s => q H' (((s1.trans s2).trans s3).trans s)
                  | ok zz =>
                    refine hc.ev Γ _ h4 H0 Ox σ H3 E3 _ fun wv H4 s4 p4 => ?_
                    simp only at hrr
                    cases h5 : g' y zz with
                    | none => rw [h5] at hrr ; cases hrr
                    | some fin =>
                      rw [h5] at hrr ; cases hrr
                      exact hr' y zz fin h5 _ _ u wv H4 (E3.step s4).ows ((p2.sm (hm_sm s3 E2.ows)).sm (hm_sm s4 E3.ows)) p4 _ fun v' H' s5 p5 => q v' H' ((((s1.trans s2).trans s3).trans s4).trans s5) p5
            | none => cases hrr
            | int _ => cases hrr
            | str _ => cases hrr
            | list _ => cases hrr
            | tuple _ => cases hrr
            | dict _ => cases hrr
theorem pp_lele (o : On X C k) (ha : PP X C W m a ta fa) (hb : PP X C W m b tb fb) (hc : PP X C W m c tc fc) (hm : lastMarks [CmpOp.LtE, CmpOp.LtE] [b, c] = false := by rfl) : PP X C W m (.Compare a [.LtE, .LtE] [b, c] pos) (tChain rLeI rLeI ta tb tc) (chainX fa fb fc gLeI gLeI) := pp_chain op_le op_le rb_le rb_le ha hb hc (pe_chain op_le op_le ha.pe hb.pe hc.pe hm)
theorem pp_lelt (o : On X C k) (ha : PP X C W m a ta fa) (hb : PP X C W m b tb fb) (hc : PP X C W m c tc fc) (hm : lastMarks [CmpOp.LtE, CmpOp.Lt] [b, c] = false := by rfl) : PP X C W m (.Compare a [.LtE, .Lt] [b, c] pos) (tChain rLeI rLtI ta tb tc) (chainX fa fb fc gLeI gLtI) := pp_chain op_le op_lt rb_le rb_lt ha hb hc (pe_chain op_le op_lt ha.pe hb.pe hc.pe hm)

/-! ### and, or, not -/
def andX (f g : PX) : PX := fun Γ => match f Γ with
  | some (.ok (.bool true)) => (match g Γ with
    | some (.ok (.bool b)) => some (.ok (.bool b))
    | some (.ok _) => none
    | r => r)
  | some (.ok (.bool false)) => some (.ok (.bool false))
  | some (.ok _) => none
  | r => r
def orX (f g : PX) : PX := fun Γ => match f Γ with
  | some (.ok (.bool false)) => (match g Γ with
    | some (.ok (.bool b)) => some (.ok (.bool b))
    | some (.ok _) => none
    | r => r)
  | some (.ok (.bool true)) => some (.ok (.bool true))
  | some (.ok _) => none
  | r => r
theorem bool_of {f : PX} {Γ : Ga} (h : f Γ ≠ none) : (∃ b, f Γ = some (.ok (.bool b))) ∨ (∃ x, f Γ = some (.error x)) ∨ ∃ d, f Γ = some (.ok d) ∧ ∀ b, d ≠ .bool b := by
  cases e : f Γ with
  | none => exact absurd e h
  | some r =>
    cases r with
    | error x => exact .inr (.inl ⟨x, rfl⟩)
    | ok d =>
      by_cases q : ∃ b, d = .bool b
      · obtain ⟨b, rfl⟩ := q
        exact .inl ⟨b, rfl⟩
      · exact .inr (.inr ⟨d, rfl, fun b z => q ⟨b, z⟩⟩)
theorem and_cases {f g : PX} {Γ : Ga} {r : Res} (h : andX f g Γ = some r) : (f Γ = some (.ok (.bool false)) ∧ r = .ok (.bool false)) ∨ (f Γ = some (.ok (.bool true)) ∧ g Γ = some r ∧ ∀ d, r = .ok d → ∃ b, d = .bool b) ∨ ∃ x, f Γ = some (.error x) ∧ r = .error x := by
  unfold andX at h
  split at h
  · rename_i h1
    split at h
    · rename_i b h2
      cases h
      exact .inr (.inl ⟨h1, h2, fun d e => ⟨b, by cases e; rfl⟩⟩)
    · cases h
    · rename_i h2 h3
      exact .inr (.inl ⟨h1, h, fun d e => by subst e; exact absurd h (h3 d)⟩)
  · rename_i h1 ; cases h ; exact .inl ⟨h1, rfl⟩
  · cases h
  · rename_i h1 h2 h3
    refine .inr (.inr ?_)
    cases r with
    | ok d => exact absurd h (h3 d)
    | error x => exact ⟨x, h, rfl⟩
theorem or_cases {f g : PX} {Γ : Ga} {r : Res} (h : orX f g Γ = some r) : (f Γ = some (.ok (.bool true)) ∧ r = .ok (.bool true)) ∨ (f Γ = some (.ok (.bool false)) ∧ g Γ = some r ∧ ∀ d, r = .ok d → ∃ b, d = .bool b) ∨ ∃ x, f Γ = some (.error x) ∧ r = .error x := by
  unfold orX at h
  split at h
  · rename_i h1
    split at h
    · rename_i b h2
      cases h
      exact .inr (.inl ⟨h1, h2, fun d e => ⟨b, by cases e; rfl⟩⟩)
    · cases h
    · rename_i h2 h3
      exact .inr (.inl ⟨h1, h, fun d e => by subst e; exact absurd h (h3 d)⟩)
  · rename_i h1 ; cases h ; exact .inl ⟨h1, rfl⟩
  · cases h
  · rename_i h1 h2 h3
    refine .inr (.inr ?_)
    cases r with
    | ok d => exact absurd h (h3 d)
    | error x => exact ⟨x, h, rfl⟩
variable {rest : List Expr}
theorem pp_one {op} (h : PP X C W m a ta fa) : PP X C W m (.BoolOp op [a] pos) ta fa := ⟨pe_one h.pe, h.ev⟩
theorem pp_and (ha : PP X C W m a ta fa) (hb : PP X C W m (.BoolOp .And (b :: rest) pos) tb fb) : PP X C W m (.BoolOp .And (a :: b :: rest) pos) (tAndV ta tb) (andX fa fb) := by
  refine ⟨pe_and ha.pe hb.pe, fun Γ r hr H0 Ox σ H E Q q => ?_⟩
  rcases and_cases hr with ⟨h1, rfl⟩ | ⟨h1, h2, h3⟩ | ⟨x, h1, rfl⟩
  · refine ha.ev Γ _ h1 H0 Ox σ H E _ fun v H1 s1 p1 => ⟨false, rp_bool p1, ?_⟩
    rw [if_neg Bool.false_ne_true]
    exact q _ _ s1 mk_bool
  · refine ha.ev Γ _ h1 H0 Ox σ H E _ fun v H1 s1 p1 => ⟨true, rp_bool p1, ?_⟩
    rw [if_pos rfl]
    refine hb.ev Γ _ h2 H0 Ox σ H1 (E.step s1) _ ?_
    cases r with
    | ok d => exact fun v H' s p => q v H' (s1.trans s) p
    | error x => exact fun H' s => q H' (s1.trans s)
  · exact ha.ev Γ _ h1 H0 Ox σ H E _ q
theorem pp_or (ha : PP X C W m a ta fa) (hb : PP X C W m (.BoolOp .Or (b :: rest) pos) tb fb) : PP X C W m (.BoolOp .Or (a :: b :: rest) pos) (tOrV ta tb) (orX fa fb) := by
  refine ⟨pe_or ha.pe hb.pe, fun Γ r hr H0 Ox σ H E Q q => ?_⟩
  rcases or_cases hr with ⟨h1, rfl⟩ | ⟨h1, h2, h3⟩ | ⟨x, h1, rfl⟩
  · refine ha.ev Γ _ h1 H0 Ox σ H E _ fun v H1 s1 p1 => ⟨true, rp_bool p1, ?_⟩
    rw [if_pos rfl]
    exact q _ _ s1 mk_bool
  · refine ha.ev Γ _ h1 H0 Ox σ H E _ fun v H1 s1 p1 => ⟨false, rp_bool p1, ?_⟩
    rw [if_neg Bool.false_ne_true]
    refine hb.ev Γ _ h2 H0 Ox σ H1 (E.step s1) _ ?_
    cases r with
    | ok d => exact fun v H' s p => q v H' (s1.trans s) p
    | error x => exact fun H' s => q H' (s1.trans s)
  · exact ha.ev Γ _ h1 H0 Ox σ H E _ q
theorem pp_not (ha : PP X C W m a ta fa) : PP X C W m (.UnaryOp .Not a pos) (tNotV ta) (b1 fa gNotB) := by
  refine ⟨pe_not ha.pe, fun Γ r hr H0 Ox σ H E Q q => ?_⟩
  show ta σ H fun x H1 => ∃ c, x = .bl c ∧ Q (.bl (!c)) H1
  refine ev_one ha.ev E hr (fun d z hz er x H2 s E2 px => ?_) fun x ex => by subst ex; exact q
  subst er
  unfold gNotB at hz
  split at hz
  · cases hz
    exact ⟨_, rp_bool px, q _ _ s mk_bool⟩
  · cases hz

/-! ### tests -/
/-- the truth value that an expression gives -/
def toT (f : PX) : PTx := fun Γ => match f Γ with
  | some (.ok (.bool b)) => some (.ok b)
  | some (.error e) => some (.error e)
  | _ => none
theorem ptt_val (ha : PP X C W .rd a ta fa) (he : ∀ whole, isTrue a X.env whole = (do let v ← whole; standAt a.pos; holding [v] (truthy v)) := by intro _; rfl) : PTt X C W a (tB ta) (toT fa) := by
  refine ⟨pt_val ha.pe he, fun Γ r hr H0 Ox σ H E Q q => ?_⟩
  unfold toT at hr
  split at hr
  · rename_i b h1
    cases hr
    exact ha.ev Γ _ h1 H0 Ox σ H E _ fun v H' s p => ⟨b, rp_bool p, q H' s⟩
  · rename_i e h1
    cases hr
    exact ha.ev Γ _ h1 H0 Ox σ H E _ q
  · cases hr
theorem ptt_cmp {op : CmpOp} {r : R2} {g : PyData → PyData → Option PyData} (ha : PP X C W .rd (.Compare a [op] [b] pos) (tOp r ta tb) f) (ht : PT X (.Compare a [op] [b] pos) (tTest (tOp r ta tb))) : PTt X C W (.Compare a [op] [b] pos) (tTest (tOp r ta tb)) (toT f) := by
  refine ⟨ht, fun Γ r hr H0 Ox σ H E Q q => ?_⟩
  unfold toT at hr
  split at hr
  · rename_i b h1
    cases hr
    exact ha.ev Γ _ h1 H0 Ox σ H E _ fun v H' s p => ⟨b, rp_bool p, q H' s⟩
  · rename_i e h1
    cases hr
    exact ha.ev Γ _ h1 H0 Ox σ H E _ q
  · cases hr
variable {t u : TT} {ft fu : PTx}
def andT (f g : PTx) : PTx := fun Γ => match f Γ with
  | some (.ok true) => g Γ
  | r => r
def orT (f g : PTx) : PTx := fun Γ => match f Γ with
  | some (.ok false) => g Γ
  | r => r
def notT (f : PTx) : PTx := fun Γ => match f Γ with
  | some (.ok b) => some (.ok (!b))
  | r => r
/-- a test whatever its whole is -/
structure PWt (X : Cx) (C : Cf) (W : WX) (e : Expr) (tt : TT) (f : PTx) : Prop where
  pe : PW X e tt
  ev : EvT C W tt f
theorem PWt.tt (h : PWt X C W e t ft) : PTt X C W e t ft := ⟨h.pe.pt, h.ev⟩
theorem pwt_and1 (h : PTt X C W a t ft) : PWt X C W (.BoolOp .And [a] pos) t ft := ⟨pw_and1 h.pe, h.ev⟩
theorem pwt_or1 (h : PTt X C W a t ft) : PWt X C W (.BoolOp .Or [a] pos) t ft := ⟨pw_or1 h.pe, h.ev⟩
theorem pwt_and (h : PTt X C W a t ft) (g : PWt X C W (.BoolOp .And (b :: rest) pos) u fu) : PWt X C W (.BoolOp .And (a :: b :: rest) pos) (tAnd t u) (andT ft fu) := by
  refine ⟨pw_and h.pe g.pe, fun Γ r hr H0 Ox σ H E Q q => ?_⟩
  unfold andT at hr
  cases h1 : ft Γ with
  | none => rw [h1] at hr ; cases hr
  | some r1 =>
    rw [h1] at hr
    cases r1 with
    | error x => cases hr ; exact h.ev Γ _ h1 H0 Ox σ H E _ q
    | ok bb =>
      cases bb with
      | false =>
        cases hr
        refine h.ev Γ _ h1 H0 Ox σ H E _ fun H1 s1 => ?_
        rw [if_neg Bool.false_ne_true] ; exact q _ s1
      | true =>
        refine h.ev Γ _ h1 H0 Ox σ H E _ fun H1 s1 => ?_
        rw [if_pos rfl]
        refine g.ev Γ _ hr H0 Ox σ H1 (E.step s1) _ ?_
        cases r with
        | ok d => exact fun H' s => q H' (s1.trans s)
        | error x => exact fun H' s => q H' (s1.trans s)
theorem pwt_or (h : PTt X C W a t ft) (g : PWt X C W (.BoolOp .Or (b :: rest) pos) u fu) : PWt X C W (.BoolOp .Or (a :: b :: rest) pos) (tOr t u) (orT ft fu) := by
  refine ⟨pw_or h.pe g.pe, fun Γ r hr H0 Ox σ H E Q q => ?_⟩
  unfold orT at hr
  cases h1 : ft Γ with
  | none => rw [h1] at hr ; cases hr
  | some r1 =>
    rw [h1] at hr
    cases r1 with
    | error x => cases hr ; exact h.ev Γ _ h1 H0 Ox σ H E _ q
    | ok bb =>
      cases bb with
      | true =>
        cases hr
        refine h.ev Γ _ h1 H0 Ox σ H E _ fun H1 s1 => ?_
        rw [if_pos rfl] ; exact q _ s1
      | false =>
        refine h.ev Γ _ h1 H0 Ox σ H E _ fun H1 s1 => ?_
        rw [if_neg Bool.false_ne_true]
        refine g.ev Γ _ hr H0 Ox σ H1 (E.step s1) _ ?_
        cases r with
        | ok d => exact fun H' s => q H' (s1.trans s)
        | error x => exact fun H' s => q H' (s1.trans s)
theorem ptt_not (h : PTt X C W a t ft) : PTt X C W (.UnaryOp .Not a pos) (tNot t) (notT ft) := by
  refine ⟨pt_not h.pe, fun Γ r hr H0 Ox σ H E Q q => ?_⟩
  unfold notT at hr
  cases h1 : ft Γ with
  | none => rw [h1] at hr ; cases hr
  | some r1 =>
    rw [h1] at hr
    cases r1 with
    | error x => cases hr ; exact h.ev Γ _ h1 H0 Ox σ H E _ q
    | ok bb => cases hr ; exact h.ev Γ _ h1 H0 Ox σ H E _ fun H' s => q H' s
def ifX (ft : PTx) (f g : PX) : PX := fun Γ => match ft Γ with
  | some (.ok b) => if b then f Γ else g Γ
  | some (.error e) => some (.error e)
  | none => none
theorem pp_if (h : PTt X C W c t ft) (ha : PP X C W m a ta fa) (hb : PP X C W m b tb fb) : PP X C W m (.IfExp c a b pos) (tIf t ta tb) (ifX ft fa fb) := by
  refine ⟨pe_ifExp h.pe ha.pe hb.pe, fun Γ r hr H0 Ox σ H E Q q => ?_⟩
  unfold ifX at hr
  cases h1 : ft Γ with
  | none => rw [h1] at hr ; cases hr
  | some r1 =>
    rw [h1] at hr
    cases r1 with
    | error x => cases hr ; exact h.ev Γ _ h1 H0 Ox σ H E _ q
    | ok bb =>
      refine h.ev Γ _ h1 H0 Ox σ H E _ fun H1 s1 => ?_
      cases bb with
      | false =>
        rw [if_neg Bool.false_ne_true]
        refine hb.ev Γ _ hr H0 Ox σ H1 (E.step s1) _ ?_
        cases r with
        | ok d => exact fun v H' s p => q v H' (s1.trans s) p
        | error x => exact fun H' s => q H' (s1.trans s)
      | true =>
        rw [if_pos rfl]
        refine ha.ev Γ _ hr H0 Ox σ H1 (E.step s1) _ ?_
        cases r with
        | ok d => exact fun v H' s p => q v H' (s1.trans s) p
        | error x => exact fun H' s => q H' (s1.trans s)
end
end Z

set_option Elab.async false
set_option linter.all false
set_option maxRecDepth 100000
set_option maxHeartbeats 4000000
namespace Z
open PySem PySem.Spec PyProof.Rows L2

/-! ## sequences, calls by values -/
/-- a list whose items are of the mode m, wherever it stands itself; anything else is of the mode m -/
def Hf (K : PySem.W.Frag) (m : Md) (O Ox : List Addr) (H : Hp) (d : PyData) (v : V) : Prop := match d with
  | .list ds => ∃ a xs, v = .ref a ∧ SqL K H a xs ∧ RpL K (hm m O Ox H) ds xs
  | d => Rp K (hm m O Ox H) d v
theorem hf_of {K : PySem.W.Frag} {m : Md} {O Ox : List Addr} {H : Hp} {d : PyData} {v : V} (h : Rp K (hm m O Ox H) d v) : Hf K m O Ox H d v := by
  cases d with
  | list ds =>
    obtain ⟨a, xs, rfl, h1, h2⟩ := rp_lst h
    exact ⟨a, xs, rfl, hm_sqL h1, h2⟩
  | _ => exact h
theorem hf_rd {K : PySem.W.Frag} {m : Md} {O Ox : List Addr} {H : Hp} {d : PyData} {v : V} (h : Hf K m O Ox H d v) : Rp K H d v := by
  cases d with
  | list ds =>
    obtain ⟨a, xs, rfl, h1, h2⟩ := h
    exact mk_lst h1 (RpL.sm hm_le _ _ h2)
  | none => exact Rp.sm (hm_le (m := m) (O := O) (Ox := Ox)) _ _ h
  | bool _ => exact Rp.sm (hm_le (m := m) (O := O) (Ox := Ox)) _ _ h
  | int _ => exact Rp.sm (hm_le (m := m) (O := O) (Ox := Ox)) _ _ h
  | str _ => exact Rp.sm (hm_le (m := m) (O := O) (Ox := Ox)) _ _ h
  | tuple _ => exact Rp.sm (hm_le (m := m) (O := O) (Ox := Ox)) _ _ h
  | dict _ => exact Rp.sm (hm_le (m := m) (O := O) (Ox := Ox)) _ _ h
theorem hf_sm {K : PySem.W.Frag} {m : Md} {O Ox : List Addr} {H H' : Hp} {d : PyData} {v : V} (s : Stp O H H') (mu : Ows O Ox H) (h : Hf K m O Ox H d v) : Hf K m O Ox H' d v := by
  cases d with
  | list ds =>
    obtain ⟨a, xs, e, h1, h2⟩ := h
    exact ⟨a, xs, e, sqL_sm (s.sm mu.mu) h1, RpL.sm (hm_sm s mu) _ _ h2⟩
  | none => exact Rp.sm (hm_sm (m := m) s mu) _ _ h
  | bool _ => exact Rp.sm (hm_sm (m := m) s mu) _ _ h
  | int _ => exact Rp.sm (hm_sm (m := m) s mu) _ _ h
  | str _ => exact Rp.sm (hm_sm (m := m) s mu) _ _ h
  | tuple _ => exact Rp.sm (hm_sm (m := m) s mu) _ _ h
  | dict _ => exact Rp.sm (hm_sm (m := m) s mu) _ _ h
def EvH (C : Cf) (W : WX) (m : Md) (te : TE) (f : PX) : Prop := ∀ Γ r, f Γ = some r → ∀ H0 Ox σ H, EnvR C H0 Ox σ Γ H → ∀ Q : VK,
  (match r with
    | .ok d => ∀ v H', Stp (ow C.fl Ox σ Γ) H H' → Hf C.K m (ow C.fl Ox σ Γ) Ox H' d v → Q v H'
    | .error e => ∀ H', Stp (ow C.fl Ox σ Γ) H H' → ErW C W σ e H') → te σ H Q
structure PH (X : Cx) (C : Cf) (W : WX) (m : Md) (e : Expr) (te : TE) (f : PX) : Prop where
  pe : PE X e te
  ev : EvH C W m te f
section
variable {X : Cx} {C : Cf} {W : WX} {m : Md} {k : Nat} {e a b c : Expr} {te ta tb tc : TE} {f fa fb fc : PX} {pos : Pos}
theorem PP.h (p : PP X C W m e te f) : PH X C W m e te f := ⟨p.pe, fun Γ r hr H0 Ox σ H E Q q => p.ev Γ r hr H0 Ox σ H E Q (by
  cases r with
  | ok d => exact fun v H' s p => q v H' s (hf_of p)
  | error x => exact q)⟩
def fO (i : Nat) : PX := fun Γ => match fV i Γ with
  | some (.ok (.dict _)) => none
  | r => r
/-- a slot, changed in place or not, as a sequence -/
theorem ph_own (i : Nat) {x : Str} {pos : Pos} (hN : X.N[i]? = some x := by rfl) (hv : Vis X.env.scope x := by first | exact Or.inl rfl | exact Or.inr (Or.inl rfl) | exact Or.inr (Or.inr rfl)) (hd : (x == ("__debug__" : Str)) = false := by decide)
    (hcd : (x == ("__classdict__" : Str)) = false := by decide) : PH X C W m (.Name x pos) (tVar i) (fO i) := by
  refine ⟨pe_var hN hv hd hcd, fun Γ r hr H0 Ox σ H E Q q => ?_⟩
  have hr' : fV i Γ = some r ∧ ∀ kvs, r ≠ .ok (.dict kvs) := by
    unfold fO at hr
    cases h1 : fV i Γ with
    | none => rw [h1] at hr; cases hr
    | some r1 =>
      rw [h1] at hr
      split at hr
      · cases hr
      · rename_i h2
        cases hr
        exact ⟨rfl, fun kvs e => h2 kvs (by rw [e])⟩
  obtain ⟨h0, hn⟩ := hr'
  obtain ⟨d, h1, rfl⟩ := fV_some h0
  by_cases n : i ∈ C.fl
  · obtain ⟨l, o, e1, e2, e3, e4⟩ := E.own i d h1 n
    refine ⟨.ref l, e1, q _ H (.refl _ _) ?_⟩
    cases d with
    | list ds =>
      obtain ⟨xs, rfl, h5⟩ := e3
      exact ⟨l, xs, rfl, .inl (.inl e2), RpL.sm (hm_lt E.ows) _ _ h5⟩
    | dict kvs => exact absurd rfl (hn kvs)
    | none => exact e3.elim
    | bool _ => exact e3.elim
    | int _ => exact e3.elim
    | str _ => exact e3.elim
    | tuple _ => exact e3.elim
  · obtain ⟨v, e1, e2⟩ := E.val i d h1 n
    exact ⟨v, e1, q v H (.refl _ _) (hf_of (e2.sm (hm_lt E.ows)))⟩
theorem evH_one {R : V → Hp → Prop} {H0 H : Hp} {Ox : List Addr} {σ : L2.St} {Γ : Ga} {r : Res} {g : PyData → Option PyData} (ha : EvH C W m ta fa) (E : EnvR C H0 Ox σ Γ H) (hr : b1 fa g Γ = some r)
    (h : ∀ d z, g d = some z → r = .ok z → ∀ x H2, Stp (ow C.fl Ox σ Γ) H H2 → EnvR C H0 Ox σ Γ H2 → Hf C.K m (ow C.fl Ox σ Γ) Ox H2 d x → R x H2)
    (he : ∀ x, r = .error x → ∀ H', Stp (ow C.fl Ox σ Γ) H H' → ErW C W σ x H') : ta σ H R := by
  unfold b1 at hr
  cases h1 : fa Γ with
  | none => rw [h1] at hr; cases hr
  | some r1 =>
    rw [h1] at hr
    cases r1 with
    | error x =>
      cases hr
      exact ha Γ _ h1 H0 Ox σ H E _ (he x rfl)
    | ok d =>
      refine ha Γ _ h1 H0 Ox σ H E _ fun v H1 s1 p1 => ?_
      simp only at hr
      cases h3 : g d with
      | none => rw [h3] at hr; cases hr
      | some z =>
        rw [h3] at hr
        have er : r = .ok z := by cases hr; rfl
        exact h d z h3 er v H1 s1 (E.step s1) p1
/-- one value behind another, as sequences -/
theorem evH_two {n : Md} {R : V → V → Hp → Prop} {H0 H : Hp} {Ox : List Addr} {σ : L2.St} {Γ : Ga} {r : Res} {g : PyData → PyData → Option PyData} (ha : EvH C W m ta fa) (hb : EvH C W n tb fb) (E : EnvR C H0 Ox σ Γ H) (hr : b2 fa fb g Γ = some r)
    (h : ∀ d e z, g d e = some z → r = .ok z → ∀ x y H2, Stp (ow C.fl Ox σ Γ) H H2 → EnvR C H0 Ox σ Γ H2 → Hf C.K m (ow C.fl Ox σ Γ) Ox H2 d x → Hf C.K n (ow C.fl Ox σ Γ) Ox H2 e y → R x y H2)
    (he : ∀ x, r = .error x → ∀ H', Stp (ow C.fl Ox σ Γ) H H' → ErW C W σ x H') : ta σ H fun x H1 => tb σ H1 fun y H2 => R x y H2 := by
  unfold b2 at hr
  cases h1 : fa Γ with
  | none => rw [h1] at hr; cases hr
  | some r1 =>
    rw [h1] at hr
    cases r1 with
    | error x =>
      cases hr
      exact ha Γ _ h1 H0 Ox σ H E _ (he x rfl)
    | ok d =>
      refine ha Γ _ h1 H0 Ox σ H E _ fun v H1 s1 p1 => ?_
      simp only at hr
      have E1 := E.step s1
      cases h2 : fb Γ with
      | none => rw [h2] at hr; cases hr
      | some r2 =>
        rw [h2] at hr
        cases r2 with
        | error x =>
          cases hr
          exact hb Γ _ h2 H0 Ox σ H1 E1 _ fun H' s => he x rfl H' (s1.trans s)
        | ok e =>
          refine hb Γ _ h2 H0 Ox σ H1 E1 _ fun u H2 s2 p2 => ?_
          simp only at hr
          cases h3 : g d e with
          | none => rw [h3] at hr; cases hr
          | some z =>
            rw [h3] at hr
            have er : r = .ok z := by cases hr; rfl
            exact h d e z h3 er v u H2 (s1.trans s2) (E1.step s2) (hf_sm s2 E1.ows p1) p2

/-! ### arguments, displays -/
def aNil : PAx := fun _ => some (.ok [])
def aCons (f : PX) (g : PAx) : PAx := fun Γ => match f Γ with
  | some (.ok d) => (match g Γ with
    | some (.ok ds) => some (.ok (d :: ds))
    | r => r)
  | some (.error e) => some (.error e)
  | none => none
variable {es : List Expr} {t : TA} {g : PAx}
theorem par_nil : PAr X C W m [] tNil aNil := ⟨pa_nil, fun Γ r hr H0 Ox σ H E Q q => by
  cases hr
  exact q [] H (.refl _ _) rpl_nil⟩
theorem par_cons (ha : PP X C W m a ta fa) (hr : PAr X C W m es t g) (hs : starEach (a :: es) X.env = (false, eval a X.env) :: starEach es X.env := by rfl) : PAr X C W m (a :: es) (tCons ta t) (aCons fa g) := by
  refine ⟨pa_cons ha.pe hr.pe hs, fun Γ r hrr H0 Ox σ H E Q q => ?_⟩
  show ta σ H fun x H1 => t σ H1 fun xs H2 => Q (x :: xs) H2
  unfold aCons at hrr
  cases h1 : fa Γ with
  | none => rw [h1] at hrr; cases hrr
  | some r1 =>
    rw [h1] at hrr
    cases r1 with
    | error x =>
      cases hrr
      exact ha.ev Γ _ h1 H0 Ox σ H E _ q
    | ok d =>
      refine ha.ev Γ _ h1 H0 Ox σ H E _ fun v H1 s1 p1 => ?_
      simp only at hrr
      have E1 := E.step s1
      cases h2 : g Γ with
      | none => rw [h2] at hrr; cases hrr
      | some r2 =>
        rw [h2] at hrr
        cases r2 with
        | error x =>
          cases hrr
          exact hr.ev Γ _ h2 H0 Ox σ H1 E1 _ fun H' s => q H' (s1.trans s)
        | ok ds =>
          cases hrr
          exact hr.ev Γ _ h2 H0 Ox σ H1 E1 _ fun xs H2 s2 p2 => q _ _ (s1.trans s2) (rpl_cons (p1.sm (hm_sm s2 E1.ows)) p2)
/-- what a call makes of its arguments -/
def c1 (f : PAx) (g : List PyData → Option PyData) : PX := fun Γ => match f Γ with
  | some (.ok ds) => (g ds).map .ok
  | some (.error e) => some (.error e)
  | none => none
def RA (K : PySem.W.Frag) (m : Md) (r : List V → Hp → VK → Prop) (g : List PyData → Option PyData) : Prop := ∀ ds z, g ds = some z → ∀ O Ox xs H, Ows O Ox H → RpL K (hm m O Ox H) ds xs → ∀ Q : VK, (∀ v H', Stp O H H' → Rp K (hm m O Ox H') z v → Q v H') → r xs H Q
def RAF (K : PySem.W.Frag) (m : Md) (r : List V → Hp → VK → Prop) (g : List PyData → Option PyData) : Prop := ∀ ds z, g ds = some z → ∀ O Ox xs H, Ows O Ox H → RpL K (hm m O Ox H) ds xs → ∀ Q : VK, (∀ l o H', Stp O H H' → H' l = none → Cel K (hm m O Ox H') z o → Q (.ref l) (upd H' l o)) → r xs H Q
variable {r : List V → Hp → VK → Prop} {gc : List PyData → Option PyData}
theorem ev_call (ha : EvA C W m t g) (hr : RA C.K m r gc) : Ev C W m (tCB r t) (c1 g gc) := fun Γ rr hrr H0 Ox σ H E Q q => by
  show t σ H fun vs H1 => r vs H1 Q
  unfold c1 at hrr
  cases h1 : g Γ with
  | none => rw [h1] at hrr; cases hrr
  | some r1 =>
    rw [h1] at hrr
    cases r1 with
    | error x =>
      cases hrr
      exact ha Γ _ h1 H0 Ox σ H E _ q
    | ok ds =>
      simp only at hrr
      refine ha Γ _ h1 H0 Ox σ H E _ fun vs H1 s1 p1 => ?_
      cases h2 : gc ds with
      | none => rw [h2] at hrr; cases hrr
      | some z =>
        rw [h2] at hrr
        cases hrr
        exact hr ds z h2 _ _ vs H1 (E.step s1).ows p1 Q fun v H' s p => q v H' (s1.trans s) p
theorem ev_callF (ha : EvA C W m t g) (hr : RAF C.K m r gc) : EvF C W m (tCB r t) (c1 g gc) := fun Γ rr hrr H0 Ox σ H E Q q => by
  show t σ H fun vs H1 => r vs H1 Q
  unfold c1 at hrr
  cases h1 : g Γ with
  | none => rw [h1] at hrr; cases hrr
  | some r1 =>
    rw [h1] at hrr
    cases r1 with
    | error x =>
      cases hrr
      exact ha Γ _ h1 H0 Ox σ H E _ q
    | ok ds =>
      simp only at hrr
      refine ha Γ _ h1 H0 Ox σ H E _ fun vs H1 s1 p1 => ?_
      cases h2 : gc ds with
      | none => rw [h2] at hrr; cases hrr
      | some z =>
        rw [h2] at hrr
        cases hrr
        exact hr ds z h2 _ _ vs H1 (E.step s1).ows p1 Q fun l o H' s hl p => q l o H' (s1.trans s) hl p
def gTupD (ds : List PyData) : Option PyData := if ds.length ≤ big then some (.tuple ds) else none
def gLstD (ds : List PyData) : Option PyData := if ds.length ≤ big then some (.list ds) else none
theorem pp_tup {x1} (ha : PAr X C W m es t g) : PP X C W m (.Tuple es x1 pos) (tTup t) (c1 g gTupD) := ⟨pe_tup ha.pe, ev_call (r := fun xs H1 Q => xs.length ≤ sizeLine ∧ ∀ p, H1 p = none → Q (.ref p) (upd H1 p (.tup xs))) ha.ev fun ds z hz O Ox xs H mu p Q q => by
  unfold gTupD at hz
  by_cases h : ds.length ≤ big
  · rw [if_pos h] at hz; cases hz
    exact ⟨by rw [← rpl_len p]; exact big_ok h, fun l hl => q _ _ (.new mu.mu hl) (new_tup mu hl p)⟩
  · rw [if_neg h] at hz; cases hz⟩
theorem pf_lst (ha : PAr X C W m es t g) : PF X C W m (.List es pos) (tLst t) (c1 g gLstD) := ⟨pe_lst ha.pe, ev_callF (r := fun xs H1 Q => xs.length ≤ sizeLine ∧ ∀ p, H1 p = none → Q (.ref p) (upd H1 p (.lst xs))) ha.ev fun ds z hz O Ox xs H mu p Q q => by
  unfold gLstD at hz
  by_cases h : ds.length ≤ big
  · rw [if_pos h] at hz; cases hz
    exact ⟨by rw [← rpl_len p]; exact big_ok h, fun l hl => q l _ H (.refl _ _) hl ⟨xs, rfl, p⟩⟩
  · rw [if_neg h] at hz; cases hz⟩

/-! ### subscripts -/
def gIx : PyData → PyData → Option PyData
  | .list ds, .int i => atI ds i
  | .tuple ds, .int i => atI ds i
  | .str z, .int i => if z.length ≤ big then (atI z.cps.toList i).map fun c => .str ⟨#[c]⟩ else none
  | _, _ => none
theorem rpl_atI {K : PySem.W.Frag} {H : Hp} {ds : List PyData} {vs : List V} {i : Int} {d : PyData} (h : RpL K H ds vs) (e : atI ds i = some d) : ∃ v, atI vs i = some v ∧ Rp K H d v := by
  unfold atI at e ⊢
  rw [← rpl_len h]
  cases h1 : ixN ds.length i with
  | none => rw [h1] at e; cases e
  | some j =>
    rw [h1] at e
    exact rpl_get h e
theorem pp_ix (o : On X C k) (ha : PH X C W m a ta fa) (hb : PP X C W .rd b tb fb) (hs : PlainIx b := by exact fun _ _ => rfl) : PP X C W m (.Subscript a b pos) (tOp (rIx C.K) ta tb) (b2 fa fb gIx) := by
  refine ⟨pe_ix (by rw [← o.K]; exact ix_seq) ha.pe hb.pe hs, fun Γ r hr H0 Ox σ H E Q q => ?_⟩
  refine evH_two ha.ev hb.h.ev E hr (fun d e z hz er x y H2 s E2 px py => ?_) fun x ex => by subst ex; exact q
  subst er
  unfold gIx at hz
  split at hz
  · rename_i ds i
    obtain ⟨p, xs, rfl, h1, h2⟩ := px
    obtain ⟨v, h3, h4⟩ := rpl_atI h2 hz
    rw [rp_int (K := C.K) (H := H2) py]
    exact .inl ⟨p, xs, i, v, rfl, rfl, h1, h3, q v _ s h4⟩
  · rename_i ds i
    obtain ⟨p, xs, rfl, h1, h2⟩ := rp_tup px
    obtain ⟨v, h3, h4⟩ := rpl_atI h2 hz
    rw [rp_int (K := C.K) (H := H2) py]
    exact .inr (.inl ⟨p, xs, i, v, rfl, rfl, hm_sqT h1, h3, q v _ s h4⟩)
  · rename_i zz i
    rw [rp_int (K := C.K) (H := H2) py, rp_str (K := C.K) (H := H2) px]
    by_cases h : zz.length ≤ big
    · rw [if_pos h] at hz
      cases h1 : atI zz.cps.toList i with
      | none => rw [h1] at hz; cases hz
      | some c =>
        rw [h1] at hz; cases hz
        exact .inr (.inr ⟨zz, i, c, rfl, rfl, big_ok h, h1, q _ _ s mk_str⟩)
    · rw [if_neg h] at hz; cases hz
  · cases hz

/-! ### slices -/
abbrev POx := Ga → Option (Except Er (Option Int))
def EvO (C : Cf) (W : WX) (to : TO) (f : POx) : Prop := ∀ Γ r, f Γ = some r → ∀ H0 Ox σ H, EnvR C H0 Ox σ Γ H → ∀ Q : Option Int → Hp → Prop,
  (match r with
    | .ok i => ∀ H', Stp (ow C.fl Ox σ Γ) H H' → Q i H'
    | .error e => ∀ H', Stp (ow C.fl Ox σ Γ) H H' → ErW C W σ e H') → to σ H Q
structure PPo (X : Cx) (C : Cf) (W : WX) (e : Option Expr) (to : TO) (f : POx) : Prop where
  pe : PO X e to
  ev : EvO C W to f
def oNone : POx := fun _ => some (.ok none)
def oSome (f : PX) : POx := fun Γ => match f Γ with
  | some (.ok (.int i)) => some (.ok (some i))
  | some (.error e) => some (.error e)
  | _ => none
theorem ppo_none : PPo X C W none tNoPart oNone := ⟨po_none, fun Γ r hr H0 Ox σ H E Q q => by cases hr; exact q H (.refl _ _)⟩
theorem ppo_some (h : PP X C W .rd e te f) : PPo X C W (some e) (tPart te) (oSome f) := ⟨po_some h.pe, fun Γ r hr H0 Ox σ H E Q q => by
  unfold oSome at hr
  split at hr
  · rename_i i h1
    cases hr
    exact h.ev Γ _ h1 H0 Ox σ H E _ fun v H' s p => ⟨i, rp_int p, q H' s⟩
  · rename_i x h1
    cases hr
    exact h.ev Γ _ h1 H0 Ox σ H E _ q
  · cases hr⟩
def cutD {α : Type} (xs : List α) (lo hi : Option Int) : List α := (xs.drop (HT.sIx xs.length 0 lo)).take (HT.sIx xs.length xs.length hi - HT.sIx xs.length 0 lo)
theorem rpl_cut {K : PySem.W.Frag} {H : Hp} {ds : List PyData} {vs : List V} (h : RpL K H ds vs) (lo hi : Option Int) : RpL K H (cutD ds lo hi) (cutV vs lo hi) := by
  unfold cutD cutV
  rw [rpl_len h]
  exact rpl_take _ (rpl_drop _ h)
def gSl (d : PyData) (lo hi : Option Int) : Option PyData := match d with
  | .list ds => some (.list (cutD ds lo hi))
  | .tuple ds => some (.tuple (cutD ds lo hi))
  | .str z => if z.length ≤ big then some (.str (cutS z lo hi)) else none
  | _ => none
def gSlL (d : PyData) (lo hi : Option Int) : Option PyData := match d with
  | .list ds => some (.list (cutD ds lo hi))
  | _ => none
def s3 (f : PX) (l u : POx) (g : PyData → Option Int → Option Int → Option PyData) : PX := fun Γ => match f Γ with
  | some (.ok d) => (match l Γ with
    | some (.ok lo) => (match u Γ with
      | some (.ok hi) => (g d lo hi).map .ok
      | some (.error e) => some (.error e)
      | none => none)
    | some (.error e) => some (.error e)
    | none => none)
  | some (.error e) => some (.error e)
  | none => none
abbrev rSlX (K : PySem.W.Frag) := fun (x : V) (lo hi : Option Int) (H : Hp) (Q : VK) => rSlL K x lo hi H Q ∨ (rSlA K x lo hi H Q ∨ rSlS x lo hi H Q)
variable {lo hi : Option Expr} {tl th : TO} {fl fh : POx} {p2 : Pos}
theorem ev_s3 {R : V → Option Int → Option Int → Hp → Prop} {H0 H : Hp} {Ox : List Addr} {σ : L2.St} {Γ : Ga} {r : Res} {g : PyData → Option Int → Option Int → Option PyData} (ha : EvH C W m ta fa) (hl : EvO C W tl fl) (hh : EvO C W th fh) (E : EnvR C H0 Ox σ Γ H) (hr : s3 fa fl fh g Γ = some r)
    (h : ∀ d lo hi z, g d lo hi = some z → r = .ok z → ∀ x H2, Stp (ow C.fl Ox σ Γ) H H2 → EnvR C H0 Ox σ Γ H2 → Hf C.K m (ow C.fl Ox σ Γ) Ox H2 d x → R x lo hi H2)
    (he : ∀ x, r = .error x → ∀ H', Stp (ow C.fl Ox σ Γ) H H' → ErW C W σ x H') : ta σ H fun x H1 => tl σ H1 fun l H2 => th σ H2 fun u H3 => R x l u H3 := by
  unfold s3 at hr
  cases h1 : fa Γ with
  | none => rw [h1] at hr; cases hr
  | some r1 =>
    rw [h1] at hr
    cases r1 with
    | error x => cases hr; exact ha Γ _ h1 H0 Ox σ H E _ (he x rfl)
    | ok d =>
      refine ha Γ _ h1 H0 Ox σ H E _ fun v H1 s1 p1 => ?_
      simp only at hr
      have E1 := E.step s1
      cases h2 : fl Γ with
      | none => rw [h2] at hr; cases hr
      | some r2 =>
        rw [h2] at hr
        cases r2 with
        | error x => cases hr; exact hl Γ _ h2 H0 Ox σ H1 E1 _ fun H' s => he x rfl H' (s1.trans s)
        | ok lo =>
          refine hl Γ _ h2 H0 Ox σ H1 E1 _ fun H2 s2 => ?_
          simp only at hr
          have E2 := E1.step s2
          cases h3 : fh Γ with
          | none => rw [h3] at hr; cases hr
          | some r3 =>
            rw [h3] at hr
            cases r3 with
            | error x => cases hr; exact hh Γ _ h3 H0 Ox σ H2 E2 _ fun H' s => he x rfl H' ((s1.trans s2).trans s)
            | ok hi =>
              refine hh Γ _ h3 H0 Ox σ H2 E2 _ fun H3 s3 => ?_
              simp only at hr
              cases h4 : g d lo hi with
              | none => rw [h4] at hr; cases hr
              | some z =>
                rw [h4] at hr
                have er : r = .ok z := by cases hr; rfl
                exact h d lo hi z h4 er v H3 ((s1.trans s2).trans s3) (E2.step s3) (hf_sm s3 E2.ows (hf_sm s2 E1.ows p1))
theorem pp_slice (o : On X C k) (ha : PH X C W m a ta fa) (hl : PPo X C W lo tl fl) (hh : PPo X C W hi th fh) : PP X C W m (.Subscript a (.Slice lo hi none p2) pos) (tSl (rSlX C.K) ta tl th) (s3 fa fl fh gSl) := by
  refine ⟨pe_slice (by rw [← o.K]; exact sl_list.or (sl_tupA.or sl_str)) ha.pe hl.pe hh.pe, fun Γ r hr H0 Ox σ H E Q q => ?_⟩
  refine ev_s3 ha.ev hl.ev hh.ev E hr (fun d l u z hz er x H2 s E2 px => ?_) fun x ex => by subst ex; exact q
  subst er
  have mu := E2.ows
  unfold gSl at hz
  split at hz
  · rename_i ds
    cases hz
    obtain ⟨p, xs, rfl, h1, h2⟩ := px
    exact .inl ⟨p, xs, rfl, h1, fun p hp => q _ _ (s.trans (.new mu.mu hp)) (new_lst mu hp (rpl_cut h2 l u))⟩
  · rename_i ds
    cases hz
    obtain ⟨p, xs, rfl, h1, h2⟩ := rp_tup px
    refine .inr (.inl ⟨p, xs, rfl, hm_sqT h1, fun hw => ?_, fun _ p hp => q _ _ (s.trans (.new mu.mu hp)) (new_tup mu hp (rpl_cut h2 l u))⟩)
    have e : cutD ds l u = ds := by
      unfold cutD
      rw [rpl_len h2, hw.1, hw.2, ← rpl_len h2]
      simp
    rw [e] at q
    exact q _ _ s px
  · rename_i zz
    rw [rp_str (K := C.K) (H := H2) px]
    by_cases h : zz.length ≤ big
    · rw [if_pos h] at hz; cases hz
      exact .inr (.inr ⟨zz, rfl, big_ok h, q _ _ s mk_str⟩)
    · rw [if_neg h] at hz; cases hz
  · cases hz
theorem pf_slice (o : On X C k) (ha : PH X C W m a ta fa) (hl : PPo X C W lo tl fl) (hh : PPo X C W hi th fh) : PF X C W m (.Subscript a (.Slice lo hi none p2) pos) (tSl (rSlL C.K) ta tl th) (s3 fa fl fh gSlL) := by
  refine ⟨pe_slice (by rw [← o.K]; exact sl_list) ha.pe hl.pe hh.pe, fun Γ r hr H0 Ox σ H E Q q => ?_⟩
  refine ev_s3 ha.ev hl.ev hh.ev E hr (fun d l u z hz er x H2 s E2 px => ?_) fun x ex => by subst ex; exact q
  subst er
  unfold gSlL at hz
  split at hz
  · cases hz
    obtain ⟨p, xs, rfl, h1, h2⟩ := px
    exact ⟨p, xs, rfl, h1, fun p hp => q p _ _ s hp ⟨_, rfl, rpl_cut h2 l u⟩⟩
  · cases hz
/-- list + list, new -/
theorem pf_add (o : On X C k) (ha : PH X C W m a ta fa) (hb : PH X C W m b tb fb) : PF X C W m (.BinOp a .Add b pos) (tOp (rCatL C.K) ta tb) (b2 fa fb gAddF) := by
  refine ⟨pe_op (by rw [← o.K]; exact op_catL) ha.pe hb.pe, fun Γ r hr H0 Ox σ H E Q q => ?_⟩
  refine evH_two ha.ev hb.ev E hr (fun d e z hz er x y H2 s E2 px py => ?_) fun x ex => by subst ex; exact q
  subst er
  unfold gAddF at hz
  split at hz
  · rename_i ds es
    by_cases h : ds.length + es.length ≤ big
    · rw [if_pos h] at hz ; cases hz
      obtain ⟨a, xs, rfl, h1, h2⟩ := px
      obtain ⟨b, ys, rfl, h3, h4⟩ := py
      have l1 := rpl_len h2 ; have l2 := rpl_len h4
      exact ⟨a, b, xs, ys, rfl, rfl, h1, h3, big_ok (by omega), fun p hp => q p _ H2 s hp ⟨_, rfl, rpl_app h2 h4⟩⟩
    · rw [if_neg h] at hz ; cases hz
  · cases hz
end
end Z

set_option Elab.async false
set_option linter.all false
set_option maxRecDepth 100000
set_option maxHeartbeats 4000000
namespace Z
open PySem PySem.Spec PyProof.Rows L2

/-! ## calls of built-in functions, of methods of texts -/
def ints? : List PyData → Option (List Int)
  | [] => some []
  | .int i :: r => (ints? r).map (i :: ·)
  | _ => none
def strs? : List PyData → Option (List Str)
  | [] => some []
  | .str i :: r => (strs? r).map (i :: ·)
  | _ => none
def bools? : List PyData → Option (List Bool)
  | [] => some []
  | .bool i :: r => (bools? r).map (i :: ·)
  | _ => none
theorem ints_v {K : PySem.W.Frag} {H : Hp} : ∀ {ds : List PyData} {vs : List V} {ns : List Int}, ints? ds = some ns → RpL K H ds vs → vs = ns.map V.int
  | [], _, _, e, h => by simp only [RpL] at h; cases e; exact h
  | d :: ds, _, _, e, h => by
    simp only [RpL] at h
    obtain ⟨v, r, rfl, h2, h3⟩ := h
    cases d with
    | int i =>
      simp only [ints?] at e
      cases h1 : ints? ds with
      | none => rw [h1] at e; cases e
      | some ns => rw [h1] at e; cases e; rw [rp_int h2, ints_v h1 h3]; rfl
    | _ => cases e
theorem strs_v {K : PySem.W.Frag} {H : Hp} : ∀ {ds : List PyData} {vs : List V} {ns : List Str}, strs? ds = some ns → RpL K H ds vs → vs = ns.map V.str
  | [], _, _, e, h => by simp only [RpL] at h; cases e; exact h
  | d :: ds, _, _, e, h => by
    simp only [RpL] at h
    obtain ⟨v, r, rfl, h2, h3⟩ := h
    cases d with
    | str i =>
      simp only [strs?] at e
      cases h1 : strs? ds with
      | none => rw [h1] at e; cases e
      | some ns => rw [h1] at e; cases e; rw [rp_str h2, strs_v h1 h3]; rfl
    | _ => cases e
theorem bools_v {K : PySem.W.Frag} {H : Hp} : ∀ {ds : List PyData} {vs : List V} {ns : List Bool}, bools? ds = some ns → RpL K H ds vs → vs = ns.map V.bl
  | [], _, _, e, h => by simp only [RpL] at h; cases e; exact h
  | d :: ds, _, _, e, h => by
    simp only [RpL] at h
    obtain ⟨v, r, rfl, h2, h3⟩ := h
    cases d with
    | bool i =>
      simp only [bools?] at e
      cases h1 : bools? ds with
      | none => rw [h1] at e; cases e
      | some ns => rw [h1] at e; cases e; rw [rp_bool h2, bools_v h1 h3]; rfl
    | _ => cases e
theorem rpl_ints {K : PySem.W.Frag} {H : Hp} : ∀ (ns : List Int), RpL K H (ns.map PyData.int) (ns.map V.int)
  | [] => rpl_nil
  | _ :: ns => rpl_cons mk_int (rpl_ints ns)
theorem rpl_strs {K : PySem.W.Frag} {H : Hp} : ∀ (ns : List Str), RpL K H (ns.map PyData.str) (ns.map V.str)
  | [] => rpl_nil
  | _ :: ns => rpl_cons mk_str (rpl_strs ns)
theorem ints_map : ∀ ns : List Int, ints? (ns.map PyData.int) = some ns
  | [] => rfl
  | n :: ns => by simp only [List.map_cons, ints?, ints_map ns, Option.map]
theorem strs_map : ∀ ns : List Str, strs? (ns.map PyData.str) = some ns
  | [] => rfl
  | n :: ns => by simp only [List.map_cons, strs?, strs_map ns, Option.map]
theorem bools_map : ∀ ns : List Bool, bools? (ns.map PyData.bool) = some ns
  | [] => rfl
  | n :: ns => by simp only [List.map_cons, bools?, bools_map ns, Option.map]

/-- a call with one argument, as a sequence -/
def RH (K : PySem.W.Frag) (m : Md) (r : List V → Hp → VK → Prop) (g : PyData → Option PyData) : Prop := ∀ d z, g d = some z → ∀ O Ox x H, Ows O Ox H → Hf K m O Ox H d x → ∀ Q : VK, (∀ v H', Stp O H H' → Rp K (hm m O Ox H') z v → Q v H') → r [x] H Q
def RHF (K : PySem.W.Frag) (m : Md) (r : List V → Hp → VK → Prop) (g : PyData → Option PyData) : Prop := ∀ d z, g d = some z → ∀ O Ox x H, Ows O Ox H → Hf K m O Ox H d x → ∀ Q : VK, (∀ l o H', Stp O H H' → H' l = none → Cel K (hm m O Ox H') z o → Q (.ref l) (upd H' l o)) → r [x] H Q
section
variable {X : Cx} {C : Cf} {W : WX} {m : Md} {k : Nat} {e a b c : Expr} {te ta tb tc : TE} {f fa fb fc : PX} {pos p : Pos} {r : List V → Hp → VK → Prop} {g : PyData → Option PyData}
theorem ev_c1 (ha : EvH C W m ta fa) (hr : RH C.K m r g) : Ev C W m (tCB r (tCons ta tNil)) (b1 fa g) := fun Γ r' hr' H0 Ox σ H E Q q => by
  show ta σ H fun x H1 => r [x] H1 Q
  refine evH_one ha E hr' (fun d z hz er x H2 s E2 px => ?_) fun x ex => by subst ex; exact q
  subst er
  exact hr d z hz _ _ x H2 E2.ows px Q fun v H' s' p => q v H' (s.trans s') p
theorem ev_c1F (ha : EvH C W m ta fa) (hr : RHF C.K m r g) : EvF C W m (tCB r (tCons ta tNil)) (b1 fa g) := fun Γ r' hr' H0 Ox σ H E Q q => by
  show ta σ H fun x H1 => r [x] H1 Q
  refine evH_one ha E hr' (fun d z hz er x H2 s E2 px => ?_) fun x ex => by subst ex; exact q
  subst er
  exact hr d z hz _ _ x H2 E2.ows px Q fun l o H' s' hl p => q l o H' (s.trans s') hl p
variable (hs : starEach [a] X.env = (false, eval a X.env) :: starEach [] X.env := by rfl)
include hs
theorem pp_b1 {x : Str} {id : String} (ho : CallR X (.builtin id) r) (hr : RH C.K m r g) (hv : bootBuiltins x = some (.builtin id)) (hg : Gl X x) (hm : X.mg x = none) (ha : PH X C W m a ta fa) (hn : x ≠ "__name__" := by decide) (hdb : (x == ("__debug__" : Str)) = false := by decide) : PP X C W m (.Call (.Name x p) [a] [] pos) (tCB r (tCons ta tNil)) (b1 fa g) := ⟨pe_callB ho hg hm hv (pa_cons ha.pe pa_nil hs) hn hdb hs rfl, ev_c1 ha.ev hr⟩
theorem pp_t1 {x : Str} {id : String} (ho : CallR X (.type id) r) (hr : RH C.K m r g) (hv : bootBuiltins x = some (.type id)) (hg : Gl X x) (hm : X.mg x = none) (ha : PH X C W m a ta fa) (hn : x ≠ "__name__" := by decide) (hdb : (x == ("__debug__" : Str)) = false := by decide) : PP X C W m (.Call (.Name x p) [a] [] pos) (tCB r (tCons ta tNil)) (b1 fa g) := ⟨pe_callTy ho hg hm hv (pa_cons ha.pe pa_nil hs) hn hdb hs rfl, ev_c1 ha.ev hr⟩
theorem pf_b1 {x : Str} {id : String} (ho : CallR X (.builtin id) r) (hr : RHF C.K m r g) (hv : bootBuiltins x = some (.builtin id)) (hg : Gl X x) (hm : X.mg x = none) (ha : PH X C W m a ta fa) (hn : x ≠ "__name__" := by decide) (hdb : (x == ("__debug__" : Str)) = false := by decide) : PF X C W m (.Call (.Name x p) [a] [] pos) (tCB r (tCons ta tNil)) (b1 fa g) := ⟨pe_callB ho hg hm hv (pa_cons ha.pe pa_nil hs) hn hdb hs rfl, ev_c1F ha.ev hr⟩
theorem pf_t1 {x : Str} {id : String} (ho : CallR X (.type id) r) (hr : RHF C.K m r g) (hv : bootBuiltins x = some (.type id)) (hg : Gl X x) (hm : X.mg x = none) (ha : PH X C W m a ta fa) (hn : x ≠ "__name__" := by decide) (hdb : (x == ("__debug__" : Str)) = false := by decide) : PF X C W m (.Call (.Name x p) [a] [] pos) (tCB r (tCons ta tNil)) (b1 fa g) := ⟨pe_callTy ho hg hm hv (pa_cons ha.pe pa_nil hs) hn hdb hs rfl, ev_c1F ha.ev hr⟩
omit hs

/-! ### len -/
def gLen : PyData → Option PyData
  | .list ds => some (.int ds.length)
  | .tuple ds => some (.int ds.length)
  | .str z => if z.length ≤ big then some (.int z.length) else none
  | _ => none
abbrev rLen (K : PySem.W.Frag) : List V → Hp → VK → Prop := fun xs H Q => ∃ x n, xs = [x] ∧ LenV K x H n ∧ Q (.int n) H
theorem rh_len {K : PySem.W.Frag} : RH K m (rLen K) gLen := by
  intro d z hz O Ox x H mu px Q q
  unfold gLen at hz
  split at hz
  · cases hz
    obtain ⟨p, xs, rfl, h1, h2⟩ := px
    exact ⟨_, xs.length, rfl, .inl ⟨xs, h1, rfl⟩, q _ H (.refl _ _) (by rw [rpl_len h2]; exact mk_int)⟩
  · cases hz
    obtain ⟨p, xs, rfl, h1, h2⟩ := rp_tup px
    exact ⟨_, xs.length, rfl, .inr ⟨xs, hm_sqT h1, rfl⟩, q _ H (.refl _ _) (by rw [rpl_len h2]; exact mk_int)⟩
  · rename_i zz
    rw [rp_str (K := K) (H := H) px]
    by_cases h : zz.length ≤ big
    · rw [if_pos h] at hz; cases hz
      exact ⟨_, zz.length, rfl, ⟨big_ok h, rfl⟩, q _ H (.refl _ _) mk_int⟩
    · rw [if_neg h] at hz; cases hz
  · cases hz
theorem pp_len (o : On X C k) (hg : Gl X "len") (hm : X.mg "len" = none) (ha : PH X C W m a ta fa) (hs : starEach [a] X.env = (false, eval a X.env) :: starEach [] X.env := by rfl) : PP X C W m (.Call (.Name "len" p) [a] [] pos) (tCB (rLen C.K) (tCons ta tNil)) (b1 fa gLen) := pp_b1 (hs := hs) (by rw [← o.K]; exact call_len) rh_len PySem.boot_len hg hm ha

/-! ### tuple(xs), list(xs) -/
def gTupO : PyData → Option PyData
  | .list ds => some (.tuple ds)
  | .tuple ds => some (.tuple ds)
  | _ => none
def gLstO : PyData → Option PyData
  | .list ds => some (.list ds)
  | .tuple ds => some (.list ds)
  | _ => none
abbrev rTupO (K : PySem.W.Frag) : List V → Hp → VK → Prop := fun xs H Q => ∃ p ys, xs = [.ref p] ∧ ((SqL K H p ys ∧ ∀ l, H l = none → Q (.ref l) (upd H l (.tup ys))) ∨ (SqT K H p ys ∧ Q (.ref p) H))
abbrev rLstO (K : PySem.W.Frag) : List V → Hp → VK → Prop := fun xs H Q => ∃ p ys, xs = [.ref p] ∧ (SqL K H p ys ∨ SqT K H p ys) ∧ ∀ l, H l = none → Q (.ref l) (upd H l (.lst ys))
theorem rh_tupO {K : PySem.W.Frag} : RH K m (rTupO K) gTupO := by
  intro d z hz O Ox x H mu px Q q
  unfold gTupO at hz
  split at hz
  · cases hz
    obtain ⟨p, xs, rfl, h1, h2⟩ := px
    exact ⟨p, xs, rfl, .inl ⟨h1, fun l hl => q _ _ (.new mu.mu hl) (new_tup mu hl h2)⟩⟩
  · cases hz
    obtain ⟨p, xs, rfl, h1, h2⟩ := rp_tup px
    exact ⟨p, xs, rfl, .inr ⟨hm_sqT h1, q _ _ (.refl _ _) px⟩⟩
  · cases hz
theorem rhf_lstO {K : PySem.W.Frag} : RHF K m (rLstO K) gLstO := by
  intro d z hz O Ox x H mu px Q q
  unfold gLstO at hz
  split at hz
  · cases hz
    obtain ⟨p, xs, rfl, h1, h2⟩ := px
    exact ⟨p, xs, rfl, .inl h1, fun l hl => q l _ H (.refl _ _) hl ⟨xs, rfl, h2⟩⟩
  · cases hz
    obtain ⟨p, xs, rfl, h1, h2⟩ := rp_tup px
    exact ⟨p, xs, rfl, .inr (hm_sqT h1), fun l hl => q l _ H (.refl _ _) hl ⟨xs, rfl, h2⟩⟩
  · cases hz
theorem pp_tupO (o : On X C k) (hg : Gl X "tuple") (hm : X.mg "tuple" = none) (ha : PH X C W m a ta fa) (hs : starEach [a] X.env = (false, eval a X.env) :: starEach [] X.env := by rfl) : PP X C W m (.Call (.Name "tuple" p) [a] [] pos) (tCB (rTupO C.K) (tCons ta tNil)) (b1 fa gTupO) := pp_t1 (hs := hs) (by rw [← o.K]; exact call_tuple_of) rh_tupO boot_tuple hg hm ha
theorem pf_lstO (o : On X C k) (hg : Gl X "list") (hm : X.mg "list" = none) (ha : PH X C W m a ta fa) (hs : starEach [a] X.env = (false, eval a X.env) :: starEach [] X.env := by rfl) : PF X C W m (.Call (.Name "list" p) [a] [] pos) (tCB (rLstO C.K) (tCons ta tNil)) (b1 fa gLstO) := pf_t1 (hs := hs) (by rw [← o.K]; exact call_list_of) rhf_lstO boot_list hg hm ha

/-! ### int(x), repr(x), str(x) -/
def gInt : PyData → Option PyData
  | .int i => some (.int i)
  | .bool b => some (.int (if b then 1 else 0))
  | .str z => if z.length ≤ 640 then (PySem.intText? z).map .int else none
  | _ => none
abbrev rInt : List V → Hp → VK → Prop := fun xs H Q => ((∃ i, xs = [.int i] ∧ Q (.int i) H) ∨ ∃ k, xs = [.bl k] ∧ Q (.int (if k then 1 else 0)) H) ∨ ∃ a n, xs = [.str a] ∧ PySem.intText? a = some n ∧ a.length ≤ 640 ∧ Q (.int n) H
theorem rh_int {K : PySem.W.Frag} : RH K m rInt gInt := by
  intro d z hz O Ox x H mu px Q q
  unfold gInt at hz
  split at hz
  · cases hz
    rw [rp_int (K := K) (H := H) px]
    exact .inl (.inl ⟨_, rfl, q _ H (.refl _ _) mk_int⟩)
  · cases hz
    rw [rp_bool (K := K) (H := H) px]
    exact .inl (.inr ⟨_, rfl, q _ H (.refl _ _) mk_int⟩)
  · rename_i zz
    rw [rp_str (K := K) (H := H) px]
    by_cases h : zz.length ≤ 640
    · rw [if_pos h] at hz
      cases h1 : PySem.intText? zz with
      | none => rw [h1] at hz; cases hz
      | some n => rw [h1] at hz; cases hz; exact .inr ⟨_, n, rfl, h1, h, q _ H (.refl _ _) mk_int⟩
    · rw [if_neg h] at hz; cases hz
  · cases hz
theorem pp_int1 (o : On X C k) (hg : Gl X "int") (hm : X.mg "int" = none) (ha : PH X C W m a ta fa) (hs : starEach [a] X.env = (false, eval a X.env) :: starEach [] X.env := by rfl) : PP X C W m (.Call (.Name "int" p) [a] [] pos) (tCB rInt (tCons ta tNil)) (b1 fa gInt) := pp_t1 (hs := hs) (call_int1.or call_int_str) rh_int PyProof.Rows.boot_int hg hm ha
theorem boot_repr' : bootBuiltins "repr" = some (.builtin "repr") := by decide +kernel
theorem boot_sorted' : bootBuiltins "sorted" = some (.builtin "sorted") := by decide +kernel
theorem boot_all' : bootBuiltins "all" = some (.builtin "all") := by decide +kernel
def gRepr : PyData → Option PyData
  | .none => some (.str "None")
  | .bool b => some (.str (if b then "True" else "False"))
  | .str z => if (reprText z).length ≤ big then some (.str (reprText z)) else none
  | .int i => if i.natAbs.log2 < 1920 then some (.str (toString i)) else none
  | _ => none
abbrev rRepr : List V → Hp → VK → Prop := fun xs H Q => (xs = [.non] ∧ Q (.str "None") H) ∨ (∃ b, xs = [.bl b] ∧ Q (.str (if b then "True" else "False")) H) ∨ (∃ z, xs = [.str z] ∧ (reprText z).length ≤ sizeLine ∧ Q (.str (reprText z)) H) ∨ ∃ i, xs = [.int i] ∧ i.natAbs.log2 < 1920 ∧ Q (.str (toString i)) H
theorem call_reprS : CallR X (.builtin "repr") rRepr := by
  intro pins s σ H xs us Q I r h
  rcases h with ⟨rfl, q⟩ | ⟨b, rfl, q⟩ | ⟨z, rfl, hz, q⟩ | ⟨i, rfl, hz, q⟩
  · obtain ⟨u, rfl, r1⟩ := vals1 r
    cases r1
    exact PySem.P.repr_of_none ⟨.str _, H, I.tok _, ⟨_, rfl⟩, q⟩
  · obtain ⟨u, rfl, r1⟩ := vals1 r
    cases r1
    exact PySem.P.repr_of_bool ⟨.str _, H, I.tok _, ⟨_, rfl⟩, q⟩
  · obtain ⟨u, rfl, t, rfl⟩ := vals1 r
    exact PySem.P.repr_of_str ⟨.str _, H, I.tok _, ⟨_, rfl⟩, q⟩ hz
  · obtain ⟨u, rfl, t, rfl⟩ := vals1 r
    exact PySem.P.repr_of_int hz ⟨.str _, H, I.tok _, ⟨_, rfl⟩, q⟩
theorem rh_repr {K : PySem.W.Frag} : RH K m rRepr gRepr := by
  intro d z hz O Ox x H mu px Q q
  unfold gRepr at hz
  split at hz
  · cases hz
    rw [rp_none (K := K) (H := H) px]
    exact .inl ⟨rfl, q _ H (.refl _ _) mk_str⟩
  · cases hz
    rw [rp_bool (K := K) (H := H) px]
    exact .inr (.inl ⟨_, rfl, q _ H (.refl _ _) mk_str⟩)
  · rename_i zz
    rw [rp_str (K := K) (H := H) px]
    by_cases h : (reprText zz).length ≤ big
    · rw [if_pos h] at hz; cases hz
      exact .inr (.inr (.inl ⟨_, rfl, big_ok h, q _ H (.refl _ _) mk_str⟩))
    · rw [if_neg h] at hz; cases hz
  · rename_i i
    rw [rp_int (K := K) (H := H) px]
    by_cases h : i.natAbs.log2 < 1920
    · rw [if_pos h] at hz; cases hz
      exact .inr (.inr (.inr ⟨_, rfl, h, q _ H (.refl _ _) mk_str⟩))
    · rw [if_neg h] at hz; cases hz
  · cases hz
theorem pp_repr (o : On X C k) (hg : Gl X "repr") (hm : X.mg "repr" = none) (ha : PH X C W m a ta fa) (hs : starEach [a] X.env = (false, eval a X.env) :: starEach [] X.env := by rfl) : PP X C W m (.Call (.Name "repr" p) [a] [] pos) (tCB rRepr (tCons ta tNil)) (b1 fa gRepr) := pp_b1 (hs := hs) call_reprS rh_repr boot_repr' hg hm ha

/-! ### sorted(xs), whole numbers; all(xs) of a list of truth values -/
def isort (ns : List Int) : List Int := ns.mergeSort
theorem isort_unique {ns ns' : List Int} (hp : ns'.Perm ns) (hs : ns'.Pairwise (· ≤ ·)) : ns' = isort ns := by
  have h1 : (isort ns).Pairwise (· ≤ ·) := by
    have := List.pairwise_mergeSort (le := fun (a b : Int) => decide (a ≤ b)) (fun a b c h1 h2 => by simp at *; omega) (fun a b => by simp; omega) ns
    exact this.imp fun {x y} h => of_decide_eq_true h
  exact List.Perm.eq_of_pairwise (le := (· ≤ ·)) (fun a b _ _ h1 h2 => by omega) hs h1 (hp.trans (List.mergeSort_perm ns _).symm)
def gSortI : PyData → Option PyData
  | .list ds => (ints? ds).map fun ns => .list ((isort ns).map .int)
  | _ => none
theorem rhf_sortI {K : PySem.W.Frag} : RHF K m (rSortedI K) gSortI := by
  intro d z hz O Ox x H mu px Q q
  unfold gSortI at hz
  split at hz
  · rename_i ds
    cases h1 : ints? ds with
    | none => rw [h1] at hz; cases hz
    | some ns =>
      rw [h1] at hz; cases hz
      obtain ⟨p, xs, rfl, h2, h3⟩ := px
      have e := ints_v h1 h3
      subst e
      refine ⟨p, ns, rfl, h2, fun ns' l hp hs hl => ?_⟩
      rw [isort_unique hp hs]
      exact q l _ H (.refl _ _) hl ⟨_, rfl, rpl_ints _⟩
  · cases hz
theorem pf_sortI (o : On X C k) (hg : Gl X "sorted") (hm : X.mg "sorted" = none) (ha : PH X C W m a ta fa) (hs : starEach [a] X.env = (false, eval a X.env) :: starEach [] X.env := by rfl) : PF X C W m (.Call (.Name "sorted" p) [a] [] pos) (tCB (rSortedI C.K) (tCons ta tNil)) (b1 fa gSortI) := pf_b1 (hs := hs) (by rw [← o.K]; exact cr_sortedI) rhf_sortI boot_sorted' hg hm ha
def gAllL : PyData → Option PyData
  | .list ds => (bools? ds).map fun bs => .bool (bs.all id)
  | _ => none
theorem rh_allL {K : PySem.W.Frag} : RH K m (rAll K) gAllL := by
  intro d z hz O Ox x H mu px Q q
  unfold gAllL at hz
  split at hz
  · rename_i ds
    cases h1 : bools? ds with
    | none => rw [h1] at hz; cases hz
    | some ns =>
      rw [h1] at hz; cases hz
      obtain ⟨p, xs, rfl, h2, h3⟩ := px
      have e := bools_v h1 h3
      subst e
      exact ⟨p, ns, rfl, h2, q _ H (.refl _ _) mk_bool⟩
  · cases hz
theorem pp_allL (o : On X C k) (cm : X.calm = true) (hg : Gl X "all") (hm : X.mg "all" = none) (ha : PH X C W m a ta fa) (hs : starEach [a] X.env = (false, eval a X.env) :: starEach [] X.env := by rfl) : PP X C W m (.Call (.Name "all" p) [a] [] pos) (tCB (rAll C.K) (tCons ta tNil)) (b1 fa gAllL) := pp_b1 (hs := hs) (by rw [← o.K]; exact cr_all cm) rh_allL boot_all' hg hm ha

/-! ### list(range(..)), x in range(..) -/
def rgD (a b : Int) : List PyData := (List.range (b - a).toNat).map fun i => .int (a + (i : Nat))
theorem rpl_map {α : Type} {K : PySem.W.Frag} {H : Hp} {f : α → PyData} {g : α → V} (h : ∀ x, Rp K H (f x) (g x)) : ∀ l : List α, RpL K H (l.map f) (l.map g)
  | [] => rpl_nil
  | _ :: l => rpl_cons (h _) (rpl_map h l)
theorem rpl_rg {K : PySem.W.Frag} {H : Hp} (a b : Int) : RpL K H (rgD a b) (rgV a b) := rpl_map (fun _ => mk_int) _
/-- the ends of a range -/
abbrev rgOk (a b : Int) : Prop := -1000000 ≤ a ∧ a ≤ 1000000 ∧ -1000000 ≤ b ∧ b ≤ 1000000
theorem rgOk.ok {a b : Int} (h : rgOk a b) : RgOk a b := by
  unfold rgOk at h
  exact ⟨by omega, by omega, by omega, by omega, by omega⟩
def gRg1L : PyData → Option PyData
  | .int n => if rgOk 0 n then some (.list (rgD 0 n)) else none
  | _ => none
def gRg2L : PyData → PyData → Option PyData
  | .int i, .int n => if rgOk i n then some (.list (rgD i n)) else none
  | _, _ => none
theorem pf_listRg1 {p p' pos' : Pos} (o : On X C k) (cm : X.calm = true) (hg : Gl X "list") (hm : X.mg "list" = none) (hgr : Gl X "range") (hmr : X.mg "range" = none) (ha : PP X C W .rd a ta fa) (hs : starEach [a] X.env = (false, eval a X.env) :: starEach [] X.env := by rfl)
    (na : starEach [Expr.Call (.Name "range" p') [a] [] pos'] X.env = (false, eval (Expr.Call (.Name "range" p') [a] [] pos') X.env) :: starEach [] X.env := by rfl) :
    PF X C W m (.Call (.Name "list" p) [.Call (.Name "range" p') [a] [] pos'] [] pos) (tLstRg (tRg1 ta)) (b1 fa gRg1L) := by
  refine ⟨pe_listRg cm hg hm (prg_1 hgr hmr ha.pe hs) na, fun Γ r' hr' H0 Ox σ H E Q q => ?_⟩
  show ta σ H fun x H1 => ∃ n, x = .int n ∧ RgOk 0 n ∧ ∀ l, H1 l = none → Q (.ref l) (upd H1 l (.lst (rgV 0 n)))
  refine ev_one ha.ev E hr' (fun d z hz er x H2 s E2 px => ?_) fun x ex => by subst ex; exact q
  subst er
  unfold gRg1L at hz
  split at hz
  · rename_i n
    by_cases h : rgOk 0 n
    · rw [if_pos h] at hz; cases hz
      exact ⟨n, rp_int px, h.ok, fun l hl => q l _ H2 s hl ⟨_, rfl, rpl_rg 0 n⟩⟩
    · rw [if_neg h] at hz; cases hz
  · cases hz
/-- range(n), an object -/
abbrev rRng : List V → Hp → VK → Prop := fun xs H Q => ∃ j, xs = [.int j] ∧ ∀ p, H p = none → Q (.ref p) (upd H p (.rng 0 j))
theorem cr_range1 : CallR X (.type "range") rRng := by
  intro pins s σ H vs us Q I r h
  obtain ⟨j, rfl, q⟩ := h
  obtain ⟨u, rfl, t, rfl⟩ := vals1 r
  refine call_range_1 ⟨.ref s.heap.objs.size, upd H s.heap.objs.size (.rng 0 j), I.laid (t' := s.toks + 1 + 1) (fun b o e => Heap.get?_push_of_some _ e) (Nat.le_refl _) ?_, rfl, q _ (I.hok.fresh (Nat.le_refl _))⟩
  exact ⟨s.toks, t, s.toks + 1, Heap.get?_push_size _ rfl⟩
def gInRg : PyData → PyData → Option PyData
  | .int i, .int n => some (.bool (decide (0 ≤ i ∧ i < n)))
  | _, _ => none
abbrev rInRg : R2 := fun x y H Q => ∃ i a lo hi, x = V.int i ∧ y = V.ref a ∧ H a = some (.rng lo hi) ∧ Q (.bl (decide (lo ≤ i ∧ i < hi))) H
theorem pp_inRg1 {p' pos' : Pos} (o : On X C k) (hgr : Gl X "range") (hmr : X.mg "range" = none) (ha : PP X C W .rd a ta fa) (hb : PP X C W .rd b tb fb) (hs : starEach [b] X.env = (false, eval b X.env) :: starEach [] X.env := by rfl) (hm : behindInMarks .In (Expr.Call (.Name "range" p') [b] [] pos') = false := by rfl) :
    PP X C W m (.Compare a [.In] [.Call (.Name "range" p') [b] [] pos'] pos) (tOp rInRg ta (tCB rRng (tCons tb tNil))) (b2 fa fb gInRg) := by
  refine ⟨pe_cmpR op_in_rng ha.pe (pe_callTy cr_range1 hgr hmr boot_range (pa_cons hb.pe pa_nil hs) (by decide) (by decide) hs rfl) hm, fun Γ r' hr' H0 Ox σ H E Q q => ?_⟩
  show ta σ H fun x H1 => tb σ H1 fun y H2 => ∃ j, [y] = [V.int j] ∧ ∀ p, H2 p = none → rInRg x (.ref p) (upd H2 p (.rng 0 j)) Q
  refine ev_two ha.ev hb.ev E hr' (fun d e z hz er x y H2 s E2 px py => ?_) fun x ex => by subst ex; exact q
  subst er
  unfold gInRg at hz
  split at hz
  · rename_i i n
    cases hz
    rw [rp_int px, rp_int py]
    exact ⟨n, rfl, fun l hl => ⟨i, l, 0, n, rfl, rfl, upd_same, q _ _ (s.trans (.new E2.mut hl)) mk_bool⟩⟩
  · cases hz

/-! ### methods of texts -/
/-- a method of a text with one argument -/
def b2s (f h : PX) (g : Str → PyData → Option PyData) : PX := fun Γ => match f Γ with
  | some (.ok (.str a)) => (match h Γ with
    | some (.ok e) => (g a e).map .ok
    | r => r)
  | some (.ok _) => none
  | r => r
theorem ev_m1 {R : V → V → Hp → Prop} {H0 H : Hp} {Ox : List Addr} {σ : L2.St} {Γ : Ga} {r : Res} {g : Str → PyData → Option PyData} (ha : Ev C W .rd ta fa) (hb : EvH C W m tb fb) (E : EnvR C H0 Ox σ Γ H) (hr : b2s fa fb g Γ = some r)
    (h : ∀ d e z, g d e = some z → r = .ok z → ∀ y H2, Stp (ow C.fl Ox σ Γ) H H2 → EnvR C H0 Ox σ Γ H2 → Hf C.K m (ow C.fl Ox σ Γ) Ox H2 e y → R (.str d) y H2)
    (he : ∀ x, r = .error x → ∀ H', Stp (ow C.fl Ox σ Γ) H H' → ErW C W σ x H') : ta σ H fun x H1 => (∃ a, x = .str a) ∧ tb σ H1 fun y H2 => R x y H2 := by
  unfold b2s at hr
  split at hr
  · rename_i d h1
    refine ha Γ _ h1 H0 Ox σ H E _ fun v H1 s1 p1 => ?_
    obtain rfl := rp_str p1
    refine ⟨⟨_, rfl⟩, ?_⟩
    have E1 := E.step s1
    cases h2 : fb Γ with
    | none => rw [h2] at hr; cases hr
    | some r2 =>
      rw [h2] at hr
      cases r2 with
      | error x =>
        cases hr
        exact hb Γ _ h2 H0 Ox σ H1 E1 _ fun H' s => he x rfl H' (s1.trans s)
      | ok e =>
        refine hb Γ _ h2 H0 Ox σ H1 E1 _ fun u H2 s2 p2 => ?_
        simp only at hr
        cases h3 : g d e with
        | none => rw [h3] at hr; cases hr
        | some z =>
          rw [h3] at hr
          have er : r = .ok z := by cases hr; rfl
          exact h d e z h3 er u H2 (s1.trans s2) (E1.step s2) p2
  · cases hr
  · rename_i h1 h2
    cases r with
    | ok d => exact absurd hr (h2 d)
    | error x => exact ha Γ _ hr H0 Ox σ H E _ (he x rfl)
def gFind (a : Str) : PyData → Option PyData
  | .str b => some (.int (Txt.find a b))
  | _ => none
variable {apos : Pos}
theorem pp_find (o : On X C k) (ha : PP X C W .rd a ta fa) (hb : PP X C W .rd b tb fb) (hs : starEach [b] X.env = [(false, eval b X.env)] := by rfl) (hbase : attributeBase a "find" X.env (eval a X.env) = eval a X.env := by rfl) (hline : (apos.endLine == pos.line) = true := by rfl) :
    PP X C W m (.Call (.Attribute a "find" apos) [b] [] pos) (tM1 (fun x xs H Q => ∃ a b, x = .str a ∧ xs = [.str b] ∧ Q (.int (Txt.find a b)) H) ta tb) (b2s fa fb gFind) := by
  refine ⟨pe_m1 PySem.F.slot_str_find PySem.F.type_str_find mt_find ha.pe hb.pe hs hbase hline, fun Γ r' hr' H0 Ox σ H E Q q => ?_⟩
  refine ev_m1 ha.ev hb.h.ev E hr' (fun d e z hz er y H2 s E2 py => ?_) fun x ex => by subst ex; exact q
  subst er
  unfold gFind at hz
  split at hz
  · cases hz
    exact ⟨_, _, rfl, by rw [rp_str (K := C.K) (H := H2) py], q _ _ s mk_int⟩
  · cases hz
/-- sep.join(xs) -/
def gJoinS (a : Str) (ys : List Str) : Option PyData := if (ys.map (·.length)).sum + ys.length * a.length ≤ big then some (.str (Txt.join a ys)) else none
def gJoin (a : Str) : PyData → Option PyData
  | .list ds => (strs? ds).bind (gJoinS a)
  | .tuple ds => (strs? ds).bind (gJoinS a)
  | _ => none
theorem join_ok {a : Str} {ds : List PyData} {z : PyData} (h : (strs? ds).bind (gJoinS a) = some z) : ∃ ys, strs? ds = some ys ∧ (ys.map (·.length)).sum + ys.length * a.length ≤ 16777216 ∧ z = .str (Txt.join a ys) := by
  cases h1 : strs? ds with
  | none => rw [h1] at h; cases h
  | some ys =>
    rw [h1] at h
    have h : gJoinS a ys = some z := h
    unfold gJoinS at h
    by_cases h2 : (ys.map (·.length)).sum + ys.length * a.length ≤ big
    · rw [if_pos h2] at h; cases h
      exact ⟨ys, rfl, Nat.le_trans h2 (by decide), rfl⟩
    · rw [if_neg h2] at h; cases h
theorem pp_join (o : On X C k) (ha : PP X C W .rd a ta fa) (hb : PH X C W .rd b tb fb) (hs : starEach [b] X.env = [(false, eval b X.env)] := by rfl) (hbase : attributeBase a "join" X.env (eval a X.env) = eval a X.env := by rfl) (hline : (apos.endLine == pos.line) = true := by rfl) :
    PP X C W m (.Call (.Attribute a "join" apos) [b] [] pos) (tM1 (fun x xs H Q => ∃ a p, ∃ ys : List Str, x = .str a ∧ xs = [.ref p] ∧ (SqL C.K H p (ys.map V.str) ∨ SqT C.K H p (ys.map V.str)) ∧
      (ys.map (·.length)).sum + ys.length * a.length ≤ 16777216 ∧ Q (.str (Txt.join a ys)) H) ta tb) (b2s fa fb gJoin) := by
  refine ⟨by rw [← o.K]; exact pe_join ha.pe hb.pe hs hbase hline, fun Γ r' hr' H0 Ox σ H E Q q => ?_⟩
  refine ev_m1 ha.ev hb.ev E hr' (fun d e z hz er y H2 s E2 py => ?_) fun x ex => by subst ex; exact q
  subst er
  unfold gJoin at hz
  split at hz
  · obtain ⟨ys, h1, h2, rfl⟩ := join_ok hz
    obtain ⟨p, xs, rfl, h3, h4⟩ := py
    have e := strs_v h1 h4
    subst e
    exact ⟨_, p, ys, rfl, rfl, .inl h3, h2, q _ _ s mk_str⟩
  · obtain ⟨ys, h1, h2, rfl⟩ := join_ok hz
    obtain ⟨p, xs, rfl, h3, h4⟩ := rp_tup py
    have e := strs_v h1 h4
    subst e
    exact ⟨_, p, ys, rfl, rfl, .inr h3, h2, q _ _ s mk_str⟩
  · cases hz
end
end Z

set_option Elab.async false
set_option linter.all false
set_option maxRecDepth 100000
set_option maxHeartbeats 4000000
namespace Z
open PySem PySem.Spec PyProof.Rows L2

/-! ## statements -/
inductive Oc where
  | nx (Γ : Ga)
  | rt (d : PyData)
  | bk (Γ : Ga)
  | ct (Γ : Ga)
  | ex (e : Er) (Γ : Ga)
  | re (d : PyData) (Γ : Ga)
abbrev SX := Ga → Option Oc
def OcW (C : Cf) (W : WX) (H0 : Hp) (Ox : List Addr) (D : Ends) : Oc → Prop
  | .nx Γ => ∀ σ H, EnvR C H0 Ox σ Γ H → D.nx σ H
  | .bk Γ => ∀ σ H, EnvR C H0 Ox σ Γ H → D.bk σ H
  | .ct Γ => ∀ σ H, EnvR C H0 Ox σ Γ H → D.ct σ H
  | .rt d => ∀ v H, Sm H0 H → Rp C.K (mask Ox H) d v → D.rt v H
  | .ex e Γ => ∀ σ H, EnvR C H0 Ox σ Γ H → ErW C W σ e H
  | .re d Γ => ∀ σ v H, EnvR C H0 Ox σ Γ H → Rp C.K (mask (ow C.fl Ox σ Γ) H) d v → D.rt v H
def EvS (C : Cf) (W : WX) (t : TS) (f : SX) : Prop := ∀ Γ r, f Γ = some r → ∀ H0 Ox σ H, EnvR C H0 Ox σ Γ H → ∀ D, OcW C W H0 Ox D r → t D σ H
structure PSt (X : Cx) (C : Cf) (W : WX) (st : Stmt) (t : TS) (f : SX) : Prop where
  pe : PS X st t
  ev : EvS C W t f
structure PBk (X : Cx) (C : Cf) (W : WX) (sts : List Stmt) (t : TS) (f : SX) : Prop where
  pe : PSs X sts t
  ev : EvS C W t f

/-! ### the environment behind a store -/
section
variable {C : Cf} {H0 H : Hp} {Ox : List Addr} {σ : L2.St} {Γ : Ga}
theorem ow1_set {i j : Nat} {v : Option V} {d : Option PyData} (h : j ≠ i) : ow1 (σ.set i v) (Γ.set i d) j = ow1 σ Γ j := by
  unfold ow1
  rw [List.getElem?_set_ne (Ne.symm h), List.getElem?_set_ne (Ne.symm h)]
theorem ow_set {i : Nat} {v : Option V} {d : Option PyData} (h : i ∉ C.fl) : ow C.fl Ox (σ.set i v) (Γ.set i d) = ow C.fl Ox σ Γ := by
  have : ∀ l : List Nat, i ∉ l → l.filterMap (ow1 (σ.set i v) (Γ.set i d)) = l.filterMap (ow1 σ Γ) := by
    intro l
    induction l with
    | nil => intro _; rfl
    | cons j l ih =>
      intro hl
      rw [List.filterMap_cons, List.filterMap_cons, ow1_set (fun e => hl (by rw [e]; simp)), ih (fun q => hl (List.mem_cons_of_mem _ q))]
  unfold ow
  rw [this _ h]
/-- a plain slot is stored -/
theorem EnvR.set (E : EnvR C H0 Ox σ Γ H) {i : Nat} {d : PyData} {v : V} (h : i ∉ C.fl) (hp : ∀ p ∈ C.pin, p.1 ≠ i) (p : Rp C.K (mask (ow C.fl Ox σ Γ) H) d v) : EnvR C H0 Ox (σ.set i (some v)) (Γ.set i (some d)) H := by
  refine ⟨by rw [List.length_set, List.length_set]; exact E.len, E.tabs, by rw [ow_set h]; exact E.sm, fun j e hj hn => ?_, fun j e hj hn => ?_, fun j k l hj hk h1 h2 => ?_, E.ox, fun p q => by rw [List.getElem?_set_ne (Ne.symm (hp p q))]; exact E.pn p q⟩
  · rw [ow_set h]
    by_cases q : j = i
    · subst q
      have lt : j < Γ.length := by
        have := List.getElem?_eq_some_iff.mp hj
        obtain ⟨h1, _⟩ := this
        rwa [List.length_set] at h1
      rw [List.getElem?_set_self lt] at hj
      cases hj
      exact ⟨v, by rw [List.getElem?_set_self (by rw [E.len]; exact lt)], p⟩
    · rw [List.getElem?_set_ne (Ne.symm q)] at hj ⊢
      exact E.val j e hj hn
  · have q : j ≠ i := fun e => h (e ▸ hn)
    rw [ow_set h]
    rw [List.getElem?_set_ne (Ne.symm q)] at hj ⊢
    exact E.own j e hj hn
  · rw [ow1_set (fun e => h (by rw [← e]; exact hj))] at h1
    rw [ow1_set (fun e => h (by rw [← e]; exact hk))] at h2
    exact E.apart j k l hj hk h1 h2
/-- a plain slot is forgotten -/
theorem EnvR.unset (E : EnvR C H0 Ox σ Γ H) {i : Nat} {v : Option V} (h : i ∉ C.fl) (hp : ∀ p ∈ C.pin, p.1 ≠ i) : EnvR C H0 Ox (σ.set i v) (Γ.set i none) H := by
  refine ⟨by rw [List.length_set, List.length_set]; exact E.len, E.tabs, by rw [ow_set h]; exact E.sm, fun j e hj hn => ?_, fun j e hj hn => ?_, fun j k l hj hk h1 h2 => ?_, E.ox, fun p q => by rw [List.getElem?_set_ne (Ne.symm (hp p q))]; exact E.pn p q⟩
  · rw [ow_set h]
    by_cases q : j = i
    · subst q
      rw [List.getElem?_set] at hj
      rw [if_pos rfl] at hj
      split at hj <;> cases hj
    · rw [List.getElem?_set_ne (Ne.symm q)] at hj ⊢
      exact E.val j e hj hn
  · have q : j ≠ i := fun e => h (e ▸ hn)
    rw [ow_set h]
    rw [List.getElem?_set_ne (Ne.symm q)] at hj ⊢
    exact E.own j e hj hn
  · rw [ow1_set (fun e => h (by rw [← e]; exact hj))] at h1
    rw [ow1_set (fun e => h (by rw [← e]; exact hk))] at h2
    exact E.apart j k l hj hk h1 h2
def wipeG (Γ : Ga) : List Nat → Ga
  | [] => Γ
  | v :: vs => (wipeG Γ vs).set v none
theorem EnvR.wipe (E : EnvR C H0 Ox σ Γ H) : ∀ {vs : List Nat}, (∀ i ∈ vs, C.plain i = true) → EnvR C H0 Ox (L2.wipe σ vs) (wipeG Γ vs) H ∧ ow C.fl Ox (L2.wipe σ vs) (wipeG Γ vs) = ow C.fl Ox σ Γ
  | [], _ => ⟨E, rfl⟩
  | v :: vs, h => by
    obtain ⟨E1, e1⟩ := EnvR.wipe E (vs := vs) fun i hi => h i (List.mem_cons_of_mem _ hi)
    have hv := h v List.mem_cons_self
    unfold L2.wipe wipeG
    exact ⟨E1.unset (pl1 hv) (pl2 hv), (ow_set (pl1 hv)).trans e1⟩
/-- the heap behind a new object, other addresses masked -/
theorem sm_fresh {O O' : List Addr} {l : Addr} {o : HO} (hl : H l = none) (s : ∀ a ∈ O', a ∈ O ∨ a = l) : Sm (mask O H) (mask O' (upd H l o)) := .of_le fun a u e => by
  obtain ⟨e1, e2⟩ := mask_some e
  have ne : a ≠ l := fun z => by rw [z, hl] at e1; cases e1
  rw [mask_out (fun q => (s a q).elim e2 ne), upd_ne ne]
  exact e1
/-- a slot that is changed in place gets a new list -/
theorem EnvR.setF (E : EnvR C H0 Ox σ Γ H) {i : Nat} {d : PyData} {l : Addr} {o : HO} (h : i ∈ C.fl) (hp : ∀ p ∈ C.pin, p.1 ≠ i) (hi : i < Γ.length) (hl : H l = none) (p : Cel C.K (mask (ow C.fl Ox σ Γ) H) d o) : EnvR C H0 Ox (σ.set i (some (.ref l))) (Γ.set i (some d)) (upd H l o) := by
  have hi' : i < σ.length := by rw [E.len]; exact hi
  have e0 : ow1 (σ.set i (some (.ref l))) (Γ.set i (some d)) i = some l := ow_of (List.getElem?_set_self hi) (List.getElem?_set_self hi')
  have sub : ∀ O : List Addr, ∀ a ∈ ow C.fl O (σ.set i (some (.ref l))) (Γ.set i (some d)), a ∈ ow C.fl O σ Γ ∨ a = l := fun O a ha => by
    rcases mem_ow.mp ha with ⟨j, hj, h1⟩ | h1
    · by_cases q : j = i
      · subst q
        rw [e0] at h1
        cases h1
        exact .inr rfl
      · rw [ow1_set q] at h1
        exact .inl (mem_ow.mpr (.inl ⟨j, hj, h1⟩))
    · exact .inl (mem_ow.mpr (.inr h1))
  have n := not_own E.mut hl
  have sm1 := sm_fresh (o := o) hl (sub Ox)
  refine ⟨by rw [List.length_set, List.length_set]; exact E.len, E.tabs, E.sm.trans (sm_fresh hl (sub [])), fun j e hj hn => ?_, fun j e hj hn => ?_, fun j k a hj hk h1 h2 => ?_, fun a ha => ?_, fun p q => by rw [List.getElem?_set_ne (Ne.symm (hp p q))]; exact E.pn p q⟩
  · have q : j ≠ i := fun z => hn (z ▸ h)
    rw [List.getElem?_set_ne (Ne.symm q)] at hj ⊢
    obtain ⟨v, e1, e2⟩ := E.val j e hj hn
    exact ⟨v, e1, e2.sm sm1⟩
  · by_cases q : j = i
    · subst q
      rw [List.getElem?_set_self hi] at hj
      cases hj
      exact ⟨l, o, List.getElem?_set_self hi', upd_same, p.sm sm1, fun z => n (mem_ow.mpr (.inr z))⟩
    · rw [List.getElem?_set_ne (Ne.symm q)] at hj ⊢
      obtain ⟨l', o', e1, e2, e3, e4⟩ := E.own j e hj hn
      exact ⟨l', o', e1, by rw [upd_ne (ne_of_none e2 hl)]; exact e2, e3.sm sm1, e4⟩
  · have fr : ∀ j ∈ C.fl, j ≠ i → ow1 σ Γ j ≠ some l := fun j hj q z => n (mem_ow.mpr (.inl ⟨j, hj, z⟩))
    by_cases q1 : j = i
    · by_cases q2 : k = i
      · rw [q1, q2]
      · rw [q1, e0] at h1
        cases h1
        rw [ow1_set q2] at h2
        exact absurd h2 (fr k hk q2)
    · by_cases q2 : k = i
      · rw [q2, e0] at h2
        cases h2
        rw [ow1_set q1] at h1
        exact absurd h1 (fr j hj q1)
      · rw [ow1_set q1] at h1
        rw [ow1_set q2] at h2
        exact E.apart j k a hj hk h1 h2
  · have := E.ox a ha
    rw [upd_ne (fun z => by rw [z] at ha; exact n (mem_ow.mpr (.inr ha)))]
    exact this
/-- a list (a dict) of one's own is changed -/
theorem EnvR.chg (E : EnvR C H0 Ox σ Γ H) {i : Nat} {d d' : PyData} {l : Addr} {o o' : HO} (h : i ∈ C.fl) (hd : Γ[i]? = some (some d)) (hs : σ[i]? = some (some (.ref l))) (hl : H l = some o) (p : Cel C.K (mask (ow C.fl Ox σ Γ) H) d' o') (nx : l ∉ Ox) : EnvR C H0 Ox σ (Γ.set i (some d')) (upd H l o') := by
  have lt : i < Γ.length := (List.getElem?_eq_some_iff.mp hd).1
  have ow1e : ∀ j, ow1 σ (Γ.set i (some d')) j = ow1 σ Γ j := fun j => by
    by_cases q : j = i
    · subst q
      unfold ow1
      rw [List.getElem?_set_self lt, hd]
    · unfold ow1
      rw [List.getElem?_set_ne (Ne.symm q)]
  have owe : ∀ O, ow C.fl O σ (Γ.set i (some d')) = ow C.fl O σ Γ := fun O => by
    unfold ow
    rw [show ow1 σ (Γ.set i (some d')) = ow1 σ Γ from funext ow1e]
  have li : ∀ O, l ∈ ow C.fl O σ Γ := fun O => mem_ow.mpr (.inl ⟨i, h, ow_of hd hs⟩)
  have me : ∀ O, mask (ow C.fl O σ (Γ.set i (some d'))) (upd H l o') = mask (ow C.fl O σ Γ) H := fun O => by rw [owe, mask_upd_in (li O)]
  refine ⟨by rw [List.length_set]; exact E.len, E.tabs, by rw [me]; exact E.sm, fun j e hj hn => ?_, fun j e hj hn => ?_, fun j k a hj hk h1 h2 => ?_, fun a ha => ?_, E.pn⟩
  · have q : j ≠ i := fun z => hn (z ▸ h)
    rw [List.getElem?_set_ne (Ne.symm q)] at hj
    rw [me]
    exact E.val j e hj hn
  · rw [me]
    by_cases q : j = i
    · subst q
      rw [List.getElem?_set_self lt] at hj
      cases hj
      exact ⟨l, o', hs, upd_same, p, nx⟩
    · rw [List.getElem?_set_ne (Ne.symm q)] at hj
      obtain ⟨l', u, e1, e2, e3, e4⟩ := E.own j e hj hn
      have ne : l' ≠ l := fun z => q (E.apart j i l hn h (ow_of hj (z ▸ e1)) (ow_of hd hs))
      exact ⟨l', u, e1, by rw [upd_ne ne]; exact e2, e3, e4⟩
  · rw [ow1e] at h1 h2
    exact E.apart j k a hj hk h1 h2
  · rw [upd_ne (fun z => nx (by rw [← z]; exact ha))]
    exact E.ox a ha
end

section
variable {X : Cx} {C : Cf} {W : WX} {k : Nat} {e a b c : Expr} {te ta tb tc : TE} {f fa fb fc : PX} {pos pos' : Pos} {st : Stmt} {rest sts : List Stmt} {t u : TS} {s g : SX}
/-! ### blocks -/
def nxX : SX := fun Γ => some (.nx Γ)
def seqX (f g : SX) : SX := fun Γ => match f Γ with
  | some (.nx Γ') => g Γ'
  | r => r
theorem pbk_nil : PBk X C W [] tNext nxX := ⟨pss_nil, fun Γ r hr H0 Ox σ H E D q => by
  cases hr
  exact q σ H E⟩
theorem pbk_one (h : PSt X C W st t s) : PBk X C W [st] t s := ⟨pss_one h.pe, h.ev⟩
theorem pbk_cons (h : PSt X C W st t s) (r : PBk X C W rest u g) : PBk X C W (st :: rest) (tSeq t u) (seqX s g) := by
  refine ⟨pss_cons h.pe r.pe, fun Γ o ho H0 Ox σ H E D q => ?_⟩
  show t { D with nx := u D } σ H
  unfold seqX at ho
  split at ho
  · rename_i Γ' h1
    exact h.ev Γ _ h1 H0 Ox σ H E _ fun σ' H' E' => r.ev Γ' _ ho H0 Ox σ' H' E' D q
  · rename_i h1
    refine h.ev Γ _ ho H0 Ox σ H E _ ?_
    cases o with
    | nx Γ' => exact absurd ho (h1 Γ')
    | rt d => exact q
    | bk Γ' => exact q
    | ct Γ' => exact q
    | ex e Γ' => exact q
    | re d Γ' => exact q
def ctX : SX := fun Γ => some (.ct Γ)
def bkX : SX := fun Γ => some (.bk Γ)
theorem st_pass : PSt X C W (.Pass pos) tNext nxX := ⟨ps_pass, fun Γ r hr H0 Ox σ H E D q => by cases hr; exact q σ H E⟩
theorem st_cont : PSt X C W (.Continue pos) tCont ctX := ⟨ps_continue, fun Γ r hr H0 Ox σ H E D q => by cases hr; exact q σ H E⟩
theorem st_break : PSt X C W (.Break pos) tBreak bkX := ⟨ps_break, fun Γ r hr H0 Ox σ H E D q => by cases hr; exact q σ H E⟩
theorem st_doc {x j} : PSt X C W (.Expr (.Constant (.str x) j pos) pos') tNext nxX := ⟨ps_doc, fun Γ r hr H0 Ox σ H E D q => by cases hr; exact q σ H E⟩

/-! ### return, a dropped value, if -/
def retX (f : PX) : SX := fun Γ => match f Γ with
  | some (.ok d) => some (.rt d)
  | some (.error e) => some (.ex e Γ)
  | none => none
theorem st_ret (h : PP X C W .mid e te f) : PSt X C W (.Return (some e) pos) (tRet te) (retX f) := ⟨ps_ret h.pe, fun Γ r hr H0 Ox σ H E D q => by
  show te σ H D.rt
  unfold retX at hr
  split at hr
  · rename_i d h1
    cases hr
    exact h.ev Γ _ h1 H0 Ox σ H E _ fun v H' s p => q v H' ((E.step s).sm.trans (mask_le _ _)) p
  · rename_i x h1
    cases hr
    exact h.ev Γ _ h1 H0 Ox σ H E _ fun H' s => q σ H' (E.step s)
  · cases hr⟩
def retNX : SX := fun _ => some (.rt .none)
theorem st_retN : PSt X C W (.Return none pos) tRetN retNX := ⟨ps_retN, fun Γ r hr H0 Ox σ H E D q => by
  cases hr
  exact q _ H (E.sm.trans (mask_le _ _)) mk_none⟩
def dropX (f : PX) : SX := fun Γ => match f Γ with
  | some (.ok d) => some (.nx Γ)
  | some (.error e) => some (.ex e Γ)
  | none => none
theorem st_expr {m : Md} (h : PP X C W m e te f) (hs : swapsWith e none pos.line X.env = pure false := by rfl) : PSt X C W (.Expr e pos) (tDrop te) (dropX f) := ⟨ps_expr h.pe hs, fun Γ r hr H0 Ox σ H E D q => by
  show te σ H fun _ H1 => D.nx σ H1
  unfold dropX at hr
  split at hr
  · rename_i d h1
    cases hr
    exact h.ev Γ _ h1 H0 Ox σ H E _ fun v H' s p => q σ H' (E.step s)
  · rename_i x h1
    cases hr
    exact h.ev Γ _ h1 H0 Ox σ H E _ fun H' s => q σ H' (E.step s)
  · cases hr⟩
def ifS (c : PTx) (f g : SX) : SX := fun Γ => match c Γ with
  | some (.ok b) => if b then f Γ else g Γ
  | some (.error e) => some (.ex e Γ)
  | none => none
variable {tt : TT} {ft : PTx} {as bs : List Stmt}
theorem st_if (hc : PTt X C W c tt ft) (ha : PBk X C W as t s) (hb : PBk X C W bs u g) : PSt X C W (.If c as bs pos) (tIfS tt t u) (ifS ft s g) := ⟨ps_if hc.pe ha.pe hb.pe, fun Γ r hr H0 Ox σ H E D q => by
  show tt σ H fun b H1 => if b = true then t D σ H1 else u D σ H1
  unfold ifS at hr
  split at hr
  · rename_i b h1
    refine hc.ev Γ _ h1 H0 Ox σ H E _ fun H1 s1 => ?_
    cases b with
    | true => rw [if_pos rfl] at hr ⊢; exact ha.ev Γ _ hr H0 Ox σ H1 (E.step s1) D q
    | false => rw [if_neg Bool.false_ne_true] at hr ⊢; exact hb.ev Γ _ hr H0 Ox σ H1 (E.step s1) D q
  · rename_i x h1
    cases hr
    exact hc.ev Γ _ h1 H0 Ox σ H E _ fun H' s => q σ H' (E.step s)
  · cases hr⟩

/-! ### targets -/
abbrev BX := PyData → Ga → Option Ga
abbrev BXs := List PyData → Ga → Option Ga
def EvG (C : Cf) (g : TG) (b : BX) : Prop := ∀ d Γ Γ', b d Γ = some Γ' → ∀ H0 Ox σ H v, EnvR C H0 Ox σ Γ H → Rp C.K (mask (ow C.fl Ox σ Γ) H) d v → ∀ Q : L2.St → Hp → Prop, (∀ σ', EnvR C H0 Ox σ' Γ' H → ow C.fl Ox σ' Γ' = ow C.fl Ox σ Γ → Q σ' H) → g v σ H Q
def EvGs (C : Cf) (g : TGs) (b : BXs) : Prop := ∀ ds Γ Γ', b ds Γ = some Γ' → ∀ H0 Ox σ H vs, EnvR C H0 Ox σ Γ H → RpL C.K (mask (ow C.fl Ox σ Γ) H) ds vs → ∀ Q : L2.St → Hp → Prop, (∀ σ', EnvR C H0 Ox σ' Γ' H → ow C.fl Ox σ' Γ' = ow C.fl Ox σ Γ → Q σ' H) → g vs σ H Q
structure PTg (X : Cx) (C : Cf) (tg : Expr) (g : TG) (b : BX) : Prop where
  pe : PG X tg g
  ev : EvG C g b
structure PTgs (X : Cx) (C : Cf) (tgs : List Expr) (g : TGs) (b : BXs) : Prop where
  pe : PGs X tgs g
  ev : EvGs C g b
def bNm (i : Nat) : BX := fun d Γ => some (Γ.set i (some d))
def bNil : BXs := fun ds Γ => match ds with
  | [] => some Γ
  | _ => none
def bCons (b : BX) (r : BXs) : BXs := fun ds Γ => match ds with
  | d :: ds => (b d Γ).bind (r ds)
  | _ => none
def bTup (n : Nat) (b : BXs) : BX := fun d Γ => match d with
  | .tuple ds => if ds.length = n then b ds Γ else none
  | _ => none
variable {tg : Expr} {tgs : List Expr} {g1 : TG} {gs : TGs} {bx : BX} {bxs : BXs}
theorem tg_nm (o : OnK X C) (i : Nat) {x : Str} (hfl : C.plain i = true := by rfl) (hi : X.N[i]? = some x := by rfl) (hx : Loc X.env.scope x := by first | exact Or.inl rfl | exact Or.inr rfl) (hf : X.fn x = true ∨ X.env.scope.names.lookup x = some .local := by first | exact .inl rfl | exact .inr rfl | assumption) : PTg X C (.Name x pos) (gName i) (bNm i) := ⟨pg_name o.nd hi hx hf, fun d Γ Γ' hb H0 Ox σ H v E p Q q => by
  cases hb
  exact q _ (E.set (pl1 hfl) (pl2 hfl) p) (ow_set (pl1 hfl))⟩
theorem tgs_nil : PTgs X C [] gNil bNil := ⟨pgs_nil, fun ds Γ Γ' hb H0 Ox σ H vs E p Q q => by
  cases ds with
  | nil => cases hb; simp only [RpL] at p; exact ⟨p, q σ E rfl⟩
  | cons d ds => cases hb⟩
theorem tgs_cons (h : PTg X C tg g1 bx) (r : PTgs X C tgs gs bxs) (hs : (assignEach (tg :: tgs) X.env).map (·.2) = assign tg X.env :: (assignEach tgs X.env).map (·.2) := by rfl) : PTgs X C (tg :: tgs) (gCons g1 gs) (bCons bx bxs) := ⟨pgs_cons h.pe r.pe hs, fun ds Γ Γ' hb H0 Ox σ H vs E p Q q => by
  cases ds with
  | nil => cases hb
  | cons d ds =>
    simp only [RpL] at p
    obtain ⟨v, vr, rfl, p1, p2⟩ := p
    unfold bCons at hb
    simp only at hb
    cases h1 : bx d Γ with
    | none => rw [h1] at hb; cases hb
    | some Γ1 =>
      rw [h1] at hb
      refine ⟨v, vr, rfl, h.ev d Γ Γ1 h1 H0 Ox σ H v E p1 _ fun σ' E' oe => ?_⟩
      refine r.ev ds Γ1 Γ' hb H0 Ox σ' H vr E' (by rw [oe]; exact p2) Q fun σ2 E2 oe2 => q σ2 E2 (oe2.trans oe)⟩
theorem tg_tup (o : OnK X C) (cm : X.calm = true) {n k' : Nat} (h : PTgs X C tgs gs bxs) (hn : (assignEach tgs X.env).length = n := by rfl) (hst : (assignEach tgs X.env).findIdx? (·.1) = none := by rfl) : PTg X C (.Tuple tgs k' pos) (gTup C.K n gs) (bTup n bxs) := ⟨by rw [← o.K]; exact pg_tup cm h.pe hn hst, fun d Γ Γ' hb H0 Ox σ H v E p Q q => by
  unfold bTup at hb
  split at hb
  · rename_i ds
    by_cases hl : ds.length = n
    · rw [if_pos hl] at hb
      obtain ⟨a, xs, rfl, h1, h2⟩ := rp_tup p
      exact ⟨a, xs, rfl, sqT_sm (mask_le _ _) h1, by rw [← rpl_len h2]; exact hl, h.ev ds Γ Γ' hb H0 Ox σ H xs E h2 Q q⟩
    · rw [if_neg hl] at hb; cases hb
  · cases hb⟩

/-! ### assignments -/
def asgX (f : PX) (b : BX) : SX := fun Γ => match f Γ with
  | some (.ok d) => (b d Γ).map .nx
  | some (.error e) => some (.ex e Γ)
  | none => none
theorem ev_asg (h : Ev C W .st te f) (hg : EvG C g1 bx) : EvS C W (tAsg te g1) (asgX f bx) := fun Γ r hr H0 Ox σ H E D q => by
  show te σ H fun x H1 => g1 x σ H1 D.nx
  unfold asgX at hr
  split at hr
  · rename_i d h1
    cases h2 : bx d Γ with
    | none => rw [h2] at hr; cases hr
    | some Γ' =>
      rw [h2] at hr; cases hr
      refine h Γ _ h1 H0 Ox σ H E _ fun v H' s p => ?_
      exact hg d Γ Γ' h2 H0 Ox σ H' v (E.step s) p D.nx fun σ' E' _ => q σ' H' E'
  · rename_i x h1
    cases hr
    exact h Γ _ h1 H0 Ox σ H E _ fun H' s => q σ H' (E.step s)
  · cases hr
theorem st_asg (h : PP X C W .st e te f) (hg : PTg X C tg g1 bx) (hs : swapsWithSole [tg] e pos.line X.env = pure false := by rfl) (hw : swappedStores [tg] e X.env = pure none := by rfl)
    (h1 : (assignEach [tg] X.env).map (·.2) = [assign tg X.env] := by rfl) : PSt X C W (.Assign [tg] e pos) (tAsg te g1) (asgX f bx) := ⟨ps_asg h.pe hg.pe hs hw h1, ev_asg h.ev hg.ev⟩
theorem st_set (o : On X C k) (i : Nat) {x : Str} (h : PP X C W .st e te f) (hfl : C.plain i = true := by rfl) (hi : X.N[i]? = some x := by rfl) (hx : Loc X.env.scope x := by first | exact Or.inl rfl | exact Or.inr rfl) (hs : swapsWith e (some (.Name x pos')) pos.line X.env = pure false := by rfl) (hf : X.fn x = true ∨ X.env.scope.names.lookup x = some .local := by first | exact .inl rfl | exact .inr rfl | assumption) :
    PSt X C W (.Assign [.Name x pos'] e pos) (tAsg te (gName i)) (asgX f (bNm i)) := ⟨ps_set o.nd hi hx h.pe hs hf, ev_asg h.ev fun d Γ Γ' hb H0 Ox σ H v E p Q q => by
  cases hb
  exact q _ (E.set (pl1 hfl) (pl2 hfl) p) (ow_set (pl1 hfl))⟩
/-- a slot that is changed in place gets a new list -/
def bNmF (i : Nat) : BX := fun d Γ => if i < Γ.length then some (Γ.set i (some d)) else none
theorem st_setF (o : On X C k) (i : Nat) {x : Str} (h : PF X C W .st e te f) (hfl : C.fl.contains i = true := by rfl) (hpn : (C.pin.all fun p => p.1 != i) = true := by rfl) (hi : X.N[i]? = some x := by rfl) (hx : Loc X.env.scope x := by first | exact Or.inl rfl | exact Or.inr rfl) (hs : swapsWith e (some (.Name x pos')) pos.line X.env = pure false := by rfl) (hf : X.fn x = true ∨ X.env.scope.names.lookup x = some .local := by first | exact .inl rfl | exact .inr rfl | assumption) :
    PSt X C W (.Assign [.Name x pos'] e pos) (tAsg te (gName i)) (asgX f (bNmF i)) := ⟨ps_set o.nd hi hx h.pe hs hf, fun Γ r hr H0 Ox σ H E D q => by
  show te σ H fun x H1 => D.nx (σ.set i (some x)) H1
  unfold asgX bNmF at hr
  split at hr
  · rename_i d h1
    by_cases lt : i < Γ.length
    · rw [if_pos lt] at hr; cases hr
      exact h.ev Γ _ h1 H0 Ox σ H E _ fun l o H' s hl p => q _ _ ((E.step s).setF (yfl hfl) (npn hpn) lt hl p)
    · rw [if_neg lt] at hr; cases hr
  · rename_i x h1
    cases hr
    exact h.ev Γ _ h1 H0 Ox σ H E _ fun H' s => q σ H' (E.step s)
  · cases hr⟩

/-! ### xs.append(e), xs[i] = e, x += e -/
theorem own_lst (E : EnvR C H0 Ox σ Γ H) {i : Nat} {ds : List PyData} (h : i ∈ C.fl) (hd : Γ[i]? = some (some (.list ds))) : ∃ l xs, σ[i]? = some (some (.ref l)) ∧ H l = some (.lst xs) ∧ RpL C.K (mask (ow C.fl Ox σ Γ) H) ds xs ∧ l ∉ Ox := by
  obtain ⟨l, o, e1, e2, ⟨xs, rfl, e3⟩, e4⟩ := E.own i _ hd h
  exact ⟨l, xs, e1, e2, e3, e4⟩
def appX (i : Nat) (f : PX) : SX := fun Γ => match Γ[i]? with
  | some (some (.list ds)) => (match f Γ with
    | some (.ok d) => if ds.length < big then some (.nx (Γ.set i (some (.list (ds ++ [d]))))) else none
    | some (.error e) => some (.ex e Γ)
    | none => none)
  | _ => none
theorem st_append (o : On X C k) (i : Nat) {x : Str} {p2 apos : Pos} (h : PP X C W .st e te f) (hfl : C.fl.contains i = true := by rfl) (hN : X.N[i]? = some x := by rfl) (hv : Vis X.env.scope x := by first | exact Or.inl rfl | exact Or.inr (Or.inl rfl) | exact Or.inr (Or.inr rfl)) (hd : (x == ("__debug__" : Str)) = false := by decide)
    (hcd : (x == ("__classdict__" : Str)) = false := by decide) (hs : swapsWith (.Call (.Attribute (.Name x p2) "append" apos) [e] [] pos') none pos.line X.env = pure false := by rfl)
    (hfew : ((backTo pos' (starEach [e] X.env)).all (fun x => !x.1) && (backToKw pos' (keywordEach [] X.env)).all (fun x => x.1.isSome)
      && decide (([e] : List Expr).length + ([] : List Keyword).length + (if ([] : List Keyword).isEmpty then 0 else 1) < 30)) = true := by rfl)
    (hline : (apos.endLine == pos'.line) = true := by rfl) (hse : starEach [e] X.env = (false, eval e X.env) :: starEach [] X.env := by rfl) (hplain : (backTo pos' (starEach [] X.env)).any (·.1) = false := by rfl) :
    PSt X C W (.Expr (.Call (.Attribute (.Name x p2) "append" apos) [e] [] pos') pos) (tDrop (tBM C.K "list" rAppend (tVar i) (tCons te tNil))) (appX i f) := by
  refine ⟨ps_expr (by rw [← o.K]; exact pe_bm PySem.F.plainAttrs_list PySem.F.slot_list_append PySem.F.type_list_append mt_append (pe_var hN hv hd hcd) (pa_cons h.pe pa_nil hse) rfl hfew hline hse hplain) hs, fun Γ r hr H0 Ox σ H E D q => ?_⟩
  show ∃ v, σ[i]? = some (some v) ∧ tyV C.K "list" v H ∧ te σ H fun y H2 => rAppend v [y] H2 fun _ H3 => D.nx σ H3
  unfold appX at hr
  split at hr
  · rename_i ds h0
    obtain ⟨l, xs, e1, e2, e3, e4⟩ := own_lst E (yfl hfl) h0
    refine ⟨.ref l, e1, .inl ⟨rfl, xs, SqL.of e2⟩, ?_⟩
    split at hr
    · rename_i d h1
      by_cases lt : ds.length < big
      · rw [if_pos lt] at hr; cases hr
        refine h.ev Γ _ h1 H0 Ox σ H E _ fun v H' s p => ?_
        have E' := E.step s
        have m : l ∈ ow C.fl Ox σ Γ := mem_ow.mpr (.inl ⟨i, yfl hfl, ow_of h0 e1⟩)
        have e2' : H' l = some (.lst xs) := by rw [s.2 l m]; exact e2
        refine ⟨l, xs, v, rfl, rfl, e2', Nat.lt_of_lt_of_le (by rw [← rpl_len e3]; exact lt) (by decide), ?_⟩
        exact q σ _ (E'.chg (yfl hfl) h0 e1 e2' (o' := .lst (xs ++ [v])) ⟨_, rfl, rpl_app (RpL.sm s.1 _ _ e3) (rpl_cons p rpl_nil)⟩ e4)
      · rw [if_neg lt] at hr; cases hr
    · rename_i x h1
      cases hr
      exact h.ev Γ _ h1 H0 Ox σ H E _ fun H' s => q σ H' (E.step s)
    · cases hr
  · cases hr
def setX (i : Nat) (fi f : PX) : SX := fun Γ => match f Γ with
  | some (.ok d) => (match Γ[i]? with
    | some (some (.list ds)) => (match fi Γ with
      | some (.ok (.int z)) => (ixN ds.length z).map fun j => .nx (Γ.set i (some (.list (ds.set j d))))
      | some (.error e) => some (.ex e Γ)
      | _ => none)
    | _ => none)
  | some (.error e) => some (.ex e Γ)
  | none => none
theorem st_setitem (o : On X C k) (i : Nat) {x : Str} {p2 p3 : Pos} (hi : PP X C W .rd a ta fa) (h : PP X C W .st e te f) (hfl : C.fl.contains i = true := by rfl) (hN : X.N[i]? = some x := by rfl) (hv : Vis X.env.scope x := by first | exact Or.inl rfl | exact Or.inr (Or.inl rfl) | exact Or.inr (Or.inr rfl)) (hd : (x == ("__debug__" : Str)) = false := by decide)
    (hcd : (x == ("__classdict__" : Str)) = false := by decide) (hs : swapsWithSole [.Subscript (.Name x p2) a p3] e pos.line X.env = pure false := by rfl) (hw : swappedStores [.Subscript (.Name x p2) a p3] e X.env = pure none := by rfl)
    (h1 : (assignEach [.Subscript (.Name x p2) a p3] X.env).map (·.2) = [assign (.Subscript (.Name x p2) a p3) X.env] := by rfl)
    (ha : ∀ v, assign (.Subscript (.Name x p2) a p3) X.env v = (do
      let ov ← holding [v] (eval (.Name x p2) X.env)
      let iv ← holding [v, ov] (eval a X.env)
      standAt p3
      holding [v, ov, iv] (setItem ov iv v)
      release [v, ov, iv] []) := by intro _; rfl) : PSt X C W (.Assign [.Subscript (.Name x p2) a p3] e pos) (tAsg te (L2.gSub (tVar i) ta rSetL)) (setX i fa f) := by
  refine ⟨ps_asg h.pe (pg_sub (pe_var hN hv hd hcd) hi.pe set_list ha) hs hw h1, fun Γ r hr H0 Ox σ H E D q => ?_⟩
  show te σ H fun y H1 => ∃ v, σ[i]? = some (some v) ∧ ta σ H1 fun z H2 => rSetL v z y H2 fun H3 => D.nx σ H3
  unfold setX at hr
  split at hr
  · rename_i d h1
    refine h.ev Γ _ h1 H0 Ox σ H E _ fun y H1 s1 p1 => ?_
    have E1 := E.step s1
    split at hr
    · rename_i ds h0
      obtain ⟨l, xs, e1, e2, e3, e4⟩ := own_lst E1 (yfl hfl) h0
      refine ⟨.ref l, e1, ?_⟩
      split at hr
      · rename_i z h2
        cases h3 : ixN ds.length z with
        | none => rw [h3] at hr; cases hr
        | some j =>
          rw [h3] at hr; cases hr
          refine hi.ev Γ _ h2 H0 Ox σ H1 E1 _ fun w H2 s2 p2 => ?_
          have E2 := E1.step s2
          have m : l ∈ ow C.fl Ox σ Γ := mem_ow.mpr (.inl ⟨i, yfl hfl, ow_of h0 e1⟩)
          have e2' : H2 l = some (.lst xs) := by rw [s2.2 l m]; exact e2
          refine ⟨l, xs, z, j, rfl, rp_int p2, e2', by rw [← rpl_len e3]; exact h3, ?_⟩
          exact q σ _ (E2.chg (yfl hfl) h0 e1 e2' (o' := .lst (xs.set j y)) ⟨_, rfl, rpl_set (p1.sm s2.1) j (RpL.sm s2.1 _ _ e3)⟩ e4)
      · rename_i x h2
        cases hr
        exact hi.ev Γ _ h2 H0 Ox σ H1 E1 _ fun H' s => q σ H' (E1.step s)
      · cases hr
    · cases hr
  · rename_i x h1
    cases hr
    exact h.ev Γ _ h1 H0 Ox σ H E _ fun H' s => q σ H' (E.step s)
  · cases hr
def augX (i : Nat) (f : PX) (g : Int → Int → Int) : SX := fun Γ => match Γ[i]? with
  | some (some (.int x)) => (match f Γ with
    | some (.ok (.int y)) => some (.nx (Γ.set i (some (.int (g x y)))))
    | some (.error e) => some (.ex e Γ)
    | _ => none)
  | _ => none
theorem st_aug (o : On X C k) (i : Nat) {x : Str} {op : Operator} {g : Int → Int → Int} (ho : PIp X op (ipI g)) (h : PP X C W .rd e te f) (hfl : C.plain i = true := by rfl) (hi : X.N[i]? = some x := by rfl) (hx : Loc X.env.scope x := by first | exact Or.inl rfl | exact Or.inr rfl) (hf : X.fn x = true ∨ X.env.scope.names.lookup x = some .local := by first | exact .inl rfl | exact .inr rfl | assumption) :
    PSt X C W (.AugAssign (.Name x pos') op e pos) (tAug i te (ipI g)) (augX i f g) := ⟨ps_aug o.nd hi hx h.pe ho hf, fun Γ r hr H0 Ox σ H E D q => by
  unfold augX at hr
  split at hr
  · rename_i z h0
    obtain ⟨v, e1, e2⟩ := E.val i _ h0 (pl1 hfl)
    refine ⟨v, e1, ?_⟩
    split at hr
    · rename_i y h1
      cases hr
      refine h.ev Γ _ h1 H0 Ox σ H E _ fun w H' s p => ⟨z, y, rp_int e2, rp_int p, ?_⟩
      exact q _ H' ((E.step s).set (pl1 hfl) (pl2 hfl) mk_int)
    · rename_i x h1
      cases hr
      exact h.ev Γ _ h1 H0 Ox σ H E _ fun H' s => q σ H' (E.step s)
    · cases hr
  · cases hr⟩
end
end Z

set_option Elab.async false
set_option linter.all false
set_option maxRecDepth 100000
set_option maxHeartbeats 4000000
namespace Z
open PySem PySem.Spec PyProof.Rows L2

/-! ## walks -/
def Wlk (K : PySem.W.Frag) (Hm : Hp) (J : It) (ds : List PyData) : Prop := ∃ (G : Hp → Prop) (Y : Nat → Hp → V → Hp → Prop), Walk J ds.length G Y ∧ (∀ H, Sm Hm H → G H) ∧
  ∀ i d H x H', ds[i]? = some d → Y i H x H' → ∀ O, Sm Hm (mask O H) → MutAll O H → Stp O H H' ∧ Rp K (mask O H') d x
section
variable {K : PySem.W.Frag} {Hm : Hp}
theorem wlk_list {a : Addr} {xs : List V} {ds : List PyData} (h : SqL K Hm a xs) (r : RpL K Hm ds xs) : Wlk K Hm (Itl K a) ds := by
  refine ⟨_, _, by rw [rpl_len r]; exact walk_list (xs := xs), fun H s => sqL_sm s h, fun i d H x H' hd y O s mu => ?_⟩
  obtain ⟨rfl, hx⟩ := y
  obtain ⟨v, h1, h2⟩ := rpl_get r hd
  rw [h1] at hx
  cases hx
  exact ⟨.refl _ _, h2.sm s⟩
theorem wlk_tup {a : Addr} {xs : List V} {ds : List PyData} (h : SqT K Hm a xs) (r : RpL K Hm ds xs) : Wlk K Hm (Itt K a) ds := by
  refine ⟨_, _, by rw [rpl_len r]; exact walk_tup (xs := xs), fun H s => sqT_sm s h, fun i d H x H' hd y O s mu => ?_⟩
  obtain ⟨rfl, hx⟩ := y
  obtain ⟨v, h1, h2⟩ := rpl_get r hd
  rw [h1] at hx
  cases hx
  exact ⟨.refl _ _, h2.sm s⟩
theorem rgD_len {a b : Int} : (rgD a b).length = (b - a).toNat := by unfold rgD; rw [List.length_map, List.length_range]
theorem rgD_get {a b : Int} {i : Nat} {d : PyData} (h : (rgD a b)[i]? = some d) : d = .int (a + i) := by
  unfold rgD at h
  rw [List.getElem?_map] at h
  cases h1 : (List.range (b - a).toNat)[i]? with
  | none => rw [h1] at h; cases h
  | some j =>
    rw [h1] at h
    obtain ⟨h2, h3⟩ := List.getElem?_eq_some_iff.mp h1
    rw [List.getElem_range] at h3
    subst h3
    cases h
    rfl
theorem wlk_range {lo hi : Int} : Wlk K Hm (Itr lo (hi - lo).toNat) (rgD lo hi) := by
  refine ⟨_, _, by rw [rgD_len]; exact walk_range (lo := lo), fun _ _ => trivial, fun i d H x H' hd y O s mu => ?_⟩
  obtain ⟨rfl, rfl⟩ := y
  rw [rgD_get hd]
  exact ⟨.refl _ _, mk_int⟩
def signs (z : Str) : List PyData := z.cps.toList.map fun c => .str ⟨#[c]⟩
theorem wlk_str {z : Str} : Wlk K Hm (Its z) (signs z) := by
  refine ⟨_, _, by unfold signs; rw [List.length_map, Array.length_toList]; exact walk_str (z := z), fun _ _ => trivial, fun i d H x H' hd y O s mu => ?_⟩
  obtain ⟨rfl, c, hc, rfl⟩ := y
  unfold signs at hd
  rw [List.getElem?_map, Array.getElem?_toList, hc] at hd
  cases hd
  exact ⟨.refl _ _, mk_str⟩
end
/-- what a walked expression gives, item by item -/
abbrev PIx := Ga → Option (Except Er (List PyData))
def EvI (C : Cf) (W : WX) (wi : TI) (f : PIx) : Prop := ∀ Γ r, f Γ = some r → ∀ H0 Ox σ H, EnvR C H0 Ox σ Γ H → ∀ R : It → Hp → Prop,
  (match r with
    | .ok ds => ∀ J H', Stp (ow C.fl Ox σ Γ) H H' → Wlk C.K (mask (ow C.fl Ox σ Γ) H') J ds → R J H'
    | .error e => ∀ H', Stp (ow C.fl Ox σ Γ) H H' → ErW C W σ e H') → wi σ H R
structure PIt (X : Cx) (C : Cf) (W : WX) (tg iter : Expr) (wi : TI) (f : PIx) : Prop where
  pe : PI X tg iter wi
  ev : EvI C W wi f
section
variable {X : Cx} {C : Cf} {W : WX} {k : Nat} {e a b c tg : Expr} {te ta tb tc : TE} {f fa fb fc : PX} {pos p : Pos}
def iL (f : PX) : PIx := fun Γ => match f Γ with
  | some (.ok (.list ds)) => some (.ok ds)
  | some (.error e) => some (.error e)
  | _ => none
def iT (f : PX) : PIx := fun Γ => match f Γ with
  | some (.ok (.tuple ds)) => some (.ok ds)
  | some (.error e) => some (.error e)
  | _ => none
def iS (f : PX) : PIx := fun Γ => match f Γ with
  | some (.ok (.str z)) => some (.ok (signs z))
  | some (.error e) => some (.error e)
  | _ => none
theorem pi_l (o : On X C k) (h : PP X C W .st e te f) : PIt X C W tg e (iList C.K te) (iL f) := ⟨by rw [← o.K]; exact pi_list h.pe, fun Γ r hr H0 Ox σ H E R q => by
  show te σ H fun x H1 => ∃ a, x = .ref a ∧ (∃ xs, SqL C.K H1 a xs) ∧ R (Itl C.K a) H1
  unfold iL at hr
  split at hr
  · rename_i ds h1
    cases hr
    refine h.ev Γ _ h1 H0 Ox σ H E _ fun v H' s p => ?_
    obtain ⟨a, xs, rfl, h2, h3⟩ := rp_lst p
    exact ⟨a, rfl, ⟨xs, sqL_sm (mask_le _ _) h2⟩, q _ H' s (wlk_list h2 h3)⟩
  · rename_i x h1
    cases hr
    exact h.ev Γ _ h1 H0 Ox σ H E _ q
  · cases hr⟩
theorem pi_t (o : On X C k) (h : PP X C W .st e te f) : PIt X C W tg e (iTup C.K te) (iT f) := ⟨by rw [← o.K]; exact pi_tup h.pe, fun Γ r hr H0 Ox σ H E R q => by
  show te σ H fun x H1 => ∃ a, x = .ref a ∧ (∃ xs, SqT C.K H1 a xs) ∧ R (Itt C.K a) H1
  unfold iT at hr
  split at hr
  · rename_i ds h1
    cases hr
    refine h.ev Γ _ h1 H0 Ox σ H E _ fun v H' s p => ?_
    obtain ⟨a, xs, rfl, h2, h3⟩ := rp_tup p
    exact ⟨a, rfl, ⟨xs, sqT_sm (mask_le _ _) h2⟩, q _ H' s (wlk_tup h2 h3)⟩
  · rename_i x h1
    cases hr
    exact h.ev Γ _ h1 H0 Ox σ H E _ q
  · cases hr⟩
theorem pi_s (o : On X C k) (h : PP X C W .rd e te f) : PIt X C W tg e (iStr te) (iS f) := ⟨pi_str h.pe, fun Γ r hr H0 Ox σ H E R q => by
  show te σ H fun x H1 => ∃ z, x = .str z ∧ R (Its z) H1
  unfold iS at hr
  split at hr
  · rename_i z h1
    cases hr
    exact h.ev Γ _ h1 H0 Ox σ H E _ fun v H' s p => ⟨z, rp_str p, q _ H' s wlk_str⟩
  · rename_i x h1
    cases hr
    exact h.ev Γ _ h1 H0 Ox σ H E _ q
  · cases hr⟩
abbrev rgB (i : Int) : Prop := -4611686018427387904 ≤ i ∧ i < 4611686018427387904
def iR1 (f : PX) : PIx := fun Γ => match f Γ with
  | some (.ok (.int n)) => if rgB n then some (.ok (rgD 0 n)) else none
  | some (.error e) => some (.error e)
  | _ => none
def iR2 (f g : PX) : PIx := fun Γ => match b2 f g (fun x y => some (.tuple [x, y])) Γ with
  | some (.ok (.tuple [.int i, .int n])) => if rgB i ∧ rgB n then some (.ok (rgD i n)) else none
  | some (.error e) => some (.error e)
  | _ => none
theorem pi_r1 {p : Pos} (o : On X C k) (hg : Gl X "range") (hm : X.mg "range" = none) (h : PP X C W .rd a ta fa) (hs : starEach [a] X.env = (false, eval a X.env) :: starEach [] X.env := by rfl) : PIt X C W tg (.Call (.Name "range" p) [a] [] pos) (iRng1 (tCons ta tNil)) (iR1 fa) := ⟨pi_range1 hg hm (pa_cons h.pe pa_nil hs) hs, fun Γ r hr H0 Ox σ H E R q => by
  show ta σ H fun x H1 => ∃ j : Int, [x] = [V.int j] ∧ -(2 ^ 62) ≤ j ∧ j < 2 ^ 62 ∧ R (Itr 0 j.toNat) H1
  unfold iR1 at hr
  split at hr
  · rename_i n h1
    by_cases hb : rgB n
    · rw [if_pos hb] at hr; cases hr
      refine h.ev Γ _ h1 H0 Ox σ H E _ fun v H' s p => ⟨n, by rw [rp_int p], hb.1, hb.2, q _ H' s ?_⟩
      have := wlk_range (K := C.K) (Hm := mask (ow C.fl Ox σ Γ) H') (lo := 0) (hi := n)
      rwa [Int.sub_zero] at this
    · rw [if_neg hb] at hr; cases hr
  · rename_i x h1
    cases hr
    exact h.ev Γ _ h1 H0 Ox σ H E _ q
  · cases hr⟩
theorem pi_r2 {p : Pos} (o : On X C k) (hg : Gl X "range") (hm : X.mg "range" = none) (h : PP X C W .rd a ta fa) (h' : PP X C W .rd b tb fb) (hs : starEach [a, b] X.env = (false, eval a X.env) :: starEach [b] X.env := by rfl) (hs2 : starEach [b] X.env = (false, eval b X.env) :: starEach [] X.env := by rfl) : PIt X C W tg (.Call (.Name "range" p) [a, b] [] pos) (iRng2 (tCons ta (tCons tb tNil))) (iR2 fa fb) := ⟨pi_range2 hg hm (pa_cons h.pe (pa_cons h'.pe pa_nil hs2) hs) (by rw [hs, hs2]; rfl) hs2, fun Γ r hr H0 Ox σ H E R q => by
  show ta σ H fun x H1 => tb σ H1 fun y H2 => ∃ i j : Int, [x, y] = [V.int i, V.int j] ∧ (-(2 ^ 62) ≤ i ∧ i < 2 ^ 62 ∧ -(2 ^ 62) ≤ j ∧ j < 2 ^ 62) ∧ R (Itr i (j - i).toNat) H2
  have key : ∃ r', b2 fa fb (fun x y => some (.tuple [x, y])) Γ = some r' := by
    unfold iR2 at hr
    cases h1 : b2 fa fb (fun x y => some (.tuple [x, y])) Γ with
    | none => rw [h1] at hr; cases hr
    | some r' => exact ⟨r', rfl⟩
  obtain ⟨r', h1⟩ := key
  refine ev_two h.ev h'.ev E h1 (fun d e z hz er x y H2 s E2 px py => ?_) fun x ex => ?_
  · subst er
    cases hz
    unfold iR2 at hr
    rw [h1] at hr
    split at hr
    · rename_i i n e2
      cases e2
      by_cases hb : rgB i ∧ rgB n
      · rw [if_pos hb] at hr; cases hr
        exact ⟨i, n, by rw [rp_int px, rp_int py], ⟨hb.1.1, hb.1.2, hb.2.1, hb.2.2⟩, q _ H2 s wlk_range⟩
      · rw [if_neg hb] at hr; cases hr
    · rename_i e2; cases e2
    · cases hr
  · subst ex
    unfold iR2 at hr
    rw [h1] at hr
    cases hr
    exact q⟩

/-! ### for -/
def forX (b : BX) (s : SX) : List PyData → Ga → Option Oc
  | [], Γ => some (.nx Γ)
  | d :: ds, Γ => match b d Γ with
    | none => none
    | some Γ1 => match s Γ1 with
      | some (.nx Γ2) => forX b s ds Γ2
      | some (.ct Γ2) => forX b s ds Γ2
      | some (.bk Γ2) => some (.nx Γ2)
      | r => r
def forS (i : PIx) (b : BX) (s : SX) : SX := fun Γ => match i Γ with
  | some (.ok ds) => forX b s ds Γ
  | some (.error e) => some (.ex e Γ)
  | none => none
theorem OcW.base {H0 H1 : Hp} {Ox : List Addr} {D : Ends} {r : Oc} (q : OcW C W H0 Ox D r) (h : Sm H0 H1) (t : ∀ P ∈ C.Ts, TabOk H0 P) : OcW C W H1 Ox D r := by
  cases r with
  | nx Γ => exact fun σ H E => q σ H (E.base h t)
  | bk Γ => exact fun σ H E => q σ H (E.base h t)
  | ct Γ => exact fun σ H E => q σ H (E.base h t)
  | rt d => exact fun v H s p => q v H (h.trans s) p
  | ex e Γ => exact fun σ H E => q σ H (E.base h t)
  | re d Γ => exact fun σ v H E => q σ v H (E.base h t)
variable {iter : Expr} {wi : TI} {fi : PIx} {g1 : TG} {bx : BX} {body : List Stmt} {t : TS} {s : SX}
theorem st_for (o : On X C k) (cm : X.calm = true) (po : PassesOwn (model X.prog X.w) X.A X.env X.xe) (hi : PIt X C W tg iter wi fi) (hg : PTg X C tg g1 bx) (hb : PBk X C W body t s) (hs : ∀ x, foldedSetIterable iter X.env x = pure x := by intro _; rfl) : PSt X C W (.For tg iter body [] pos) (tFor wi g1 t) (forS fi bx s) := by
  refine ⟨ps_for po cm hi.pe hg.pe hb.pe hs, fun Γ r hr H0 Ox σ H E D q => ?_⟩
  unfold forS at hr
  cases h1 : fi Γ with
  | none => rw [h1] at hr; cases hr
  | some r1 =>
    rw [h1] at hr
    cases r1 with
    | error x =>
      cases hr
      exact hi.ev Γ _ h1 H0 Ox σ H E _ fun H' s => q σ H' (E.step s)
    | ok ds =>
      refine hi.ev Γ _ h1 H0 Ox σ H E _ fun J H1 s1 w => ?_
      have E1 := E.step s1
      obtain ⟨G, Y, wk, hG, hY⟩ := w
      have q1 := q.base (E1.sm) E1.tabs
      have sm : ∀ {σ' : L2.St} {Γ' : Ga} {H' : Hp}, EnvR C (mask (ow C.fl [] σ Γ) H1) Ox σ' Γ' H' → Sm (mask (ow C.fl Ox σ Γ) H1) (mask (ow C.fl Ox σ' Γ') H') := fun E' => by
        have := E'.all
        rwa [mask_two] at this
      refine for_it wk (D := D) (tb := t) (g := g1) (fun i σ' H' => ∃ Γ', forX bx s (ds.drop i) Γ' = some r ∧ EnvR C (mask (ow C.fl [] σ Γ) H1) Ox σ' Γ' H') ⟨Γ, hr, E1.rebase⟩ (fun i σ' H' hi ⟨Γ', _, E'⟩ => hG H' ((sm E').trans (mask_le _ _))) (fun i x σ' H2 H3 hlt ⟨Γ', h2, E'⟩ y => ?_) fun σ' H' ⟨Γ', h2, E'⟩ => ?_
      · have hd : ds[i]? = some ds[i] := by simp [hlt]
        obtain ⟨s2, p2⟩ := hY i ds[i] H2 x H3 hd y _ (sm E') E'.mut
        have E3 := E'.step s2
        rw [List.drop_eq_getElem_cons hlt] at h2
        unfold forX at h2
        cases h3 : bx ds[i] Γ' with
        | none => rw [h3] at h2; cases h2
        | some Γ1 =>
          rw [h3] at h2
          simp only at h2
          refine hg.ev _ Γ' Γ1 h3 _ Ox σ' H3 x E3 p2 _ fun σ2 E4 _ => ?_
          cases h4 : s Γ1 with
          | none => rw [h4] at h2; cases h2
          | some oc =>
            refine hb.ev Γ1 oc h4 _ Ox σ2 H3 E4 _ ?_
            rw [h4] at h2
            cases oc with
            | nx Γ2 => exact fun σ5 H5 E5 => ⟨Γ2, h2, E5⟩
            | ct Γ2 => exact fun σ5 H5 E5 => ⟨Γ2, h2, E5⟩
            | bk Γ2 => cases h2; exact q1
            | rt d => cases h2; exact q1
            | ex e Γ2 => cases h2; exact q1
            | re d Γ2 => cases h2; exact q1
      · rw [List.drop_length] at h2
        unfold forX at h2
        cases h2
        exact q1 σ' H' E'

/-! ### while -/
def whF (c : PTx) (s : SX) : Nat → Ga → Option Oc
  | 0, _ => none
  | n + 1, Γ => match c Γ with
    | some (.ok true) => (match s Γ with
      | some (.nx Γ2) => whF c s n Γ2
      | some (.ct Γ2) => whF c s n Γ2
      | some (.bk Γ2) => some (.nx Γ2)
      | r => r)
    | some (.ok false) => some (.nx Γ)
    | some (.error e) => some (.ex e Γ)
    | none => none
theorem whF_up {c : PTx} {s : SX} : ∀ {n : Nat} {Γ : Ga} {r : Oc}, whF c s n Γ = some r → whF c s (n + 1) Γ = some r
  | 0, _, _, h => by cases h
  | n + 1, Γ, r, h => by
    rw [whF] at h ⊢
    cases h1 : c Γ with
    | none => rw [h1] at h; cases h
    | some r1 =>
      rw [h1] at h
      cases r1 with
      | error x => exact h
      | ok b =>
        cases b with
        | false => exact h
        | true =>
          simp only at h ⊢
          cases h2 : s Γ with
          | none => rw [h2] at h; cases h
          | some oc =>
            rw [h2] at h
            cases oc with
            | nx Γ2 => exact whF_up h
            | ct Γ2 => exact whF_up h
            | bk Γ2 => exact h
            | rt d => exact h
            | ex e Γ2 => exact h
            | re d Γ2 => exact h
theorem whF_le {c : PTx} {s : SX} {n m : Nat} {Γ : Ga} {r : Oc} (h : whF c s n Γ = some r) (l : n ≤ m) : whF c s m Γ = some r := by
  induction l with
  | refl => exact h
  | step _ ih => exact whF_up ih
open Classical in
/-- what a while comes to, if it ends -/
noncomputable def whX (c : PTx) (s : SX) : SX := fun Γ => if h : ∃ n r, whF c s n Γ = some r then whF c s h.choose Γ else none
theorem whX_of {c : PTx} {s : SX} {n : Nat} {Γ : Ga} {r : Oc} (h : whF c s n Γ = some r) : whX c s Γ = some r := by
  have e : ∃ n r, whF c s n Γ = some r := ⟨n, r, h⟩
  unfold whX
  rw [dif_pos e]
  obtain ⟨r', h'⟩ := e.choose_spec
  rw [h']
  have h1 := whF_le h (Nat.le_max_left n e.choose)
  have h2 := whF_le h' (Nat.le_max_right n e.choose)
  rw [h1] at h2
  exact h2.symm
theorem whX_some {c : PTx} {s : SX} {Γ : Ga} {r : Oc} (h : whX c s Γ = some r) : ∃ n, whF c s n Γ = some r := by
  unfold whX at h
  by_cases e : ∃ n r, whF c s n Γ = some r
  · rw [dif_pos e] at h; exact ⟨_, h⟩
  · rw [dif_neg e] at h; cases h
variable {tt : TT} {ft : PTx}
theorem st_while (o : On X C k) (po : PassesOwn (model X.prog X.w) X.A X.env X.xe) (hc : PTt X C W c tt ft) (hb : PBk X C W body t s) : PSt X C W (.While c body [] pos) (tWhile tt t) (whX ft s) := by
  refine ⟨ps_while po hc.pe hb.pe, fun Γ r hr H0 Ox σ H E D q => ?_⟩
  obtain ⟨n, hn⟩ := whX_some hr
  refine ⟨fun m σ' H' => ∃ Γ', whF ft s m Γ' = some r ∧ EnvR C H0 Ox σ' Γ' H', ⟨n, Γ, hn, E⟩, ?_⟩
  rintro m σ' H' ⟨Γ', h1, E'⟩
  cases m with
  | zero => cases h1
  | succ m =>
    rw [whF] at h1
    split at h1
    · rename_i h2
      refine hc.ev Γ' _ h2 H0 Ox σ' H' E' _ fun H1 s1 => ?_
      have E1 := E'.step s1
      rw [if_pos rfl]
      refine ⟨fun σ2 H2 => ∃ Γ2, whF ft s m Γ2 = some r ∧ EnvR C H0 Ox σ2 Γ2 H2, fun σ2 H2 h => ⟨m, Nat.lt_succ_self _, h⟩, ?_⟩
      cases h4 : s Γ' with
      | none => rw [h4] at h1; cases h1
      | some oc =>
        refine hb.ev Γ' oc h4 _ Ox σ' H1 E1 _ ?_
        rw [h4] at h1
        cases oc with
        | nx Γ2 => exact fun σ5 H5 E5 => ⟨Γ2, h1, E5⟩
        | ct Γ2 => exact fun σ5 H5 E5 => ⟨Γ2, h1, E5⟩
        | bk Γ2 => cases h1; exact q
        | rt d => cases h1; exact q
        | ex e Γ2 => cases h1; exact q
        | re d Γ2 => cases h1; exact q
    · rename_i h2
      cases h1
      refine hc.ev Γ' _ h2 H0 Ox σ' H' E' _ fun H1 s1 => ?_
      rw [if_neg Bool.false_ne_true]
      exact q σ' H1 (E'.step s1)
    · rename_i x h2
      cases h1
      exact hc.ev Γ' _ h2 H0 Ox σ' H' E' _ fun H1 s1 => q σ' H1 (E'.step s1)
    · cases h1
end
end Z

set_option Elab.async false
set_option linter.all false
set_option maxRecDepth 100000
set_option maxHeartbeats 4000000
namespace Z
open PySem PySem.Spec PyProof.Rows L2 GenW

/-! ## comprehensions, all over a generator expression -/
theorem wipe_in {σ : L2.St} {i : Nat} {v : Option V} : ∀ {vs : List Nat}, i ∈ vs → wipe (σ.set i v) vs = wipe σ vs := by
  have out : ∀ vs : List Nat, i ∉ vs → wipe (σ.set i v) vs = (wipe σ vs).set i v := by
    intro vs
    induction vs with
    | nil => intro _; rfl
    | cons j vs ih =>
      intro h
      unfold wipe
      rw [ih (fun q => h (List.mem_cons_of_mem _ q)), List.set_comm _ _ (fun e => h (by rw [e]; exact List.mem_cons_self))]
  intro vs
  induction vs with
  | nil => intro h; cases h
  | cons j vs ih =>
    intro h
    unfold wipe
    by_cases q : i ∈ vs
    · rw [ih q]
    · have e : j = i := by
        rcases List.mem_cons.mp h with e | e
        · exact e.symm
        · exact absurd e q
      subst e
      rw [out vs q, List.set_set]
theorem wipe_idem {σ : L2.St} : ∀ {vs us : List Nat}, (∀ i ∈ us, i ∈ vs) → wipe (wipe σ us) vs = wipe σ vs
  | vs, [], _ => rfl
  | vs, j :: us, h => by
    show wipe ((wipe σ us).set j none) vs = _
    rw [wipe_in (h j List.mem_cons_self), wipe_idem fun i hi => h i (List.mem_cons_of_mem _ hi)]
/-- a target that stores own names of the block alone -/
def WpG (vs : List Nat) (g : TG) : Prop := ∀ v σ H Q, g v σ H Q → g v σ H fun σ2 H2 => wipe σ2 vs = wipe σ vs ∧ Q σ2 H2
def WpGs (vs : List Nat) (g : TGs) : Prop := ∀ v σ H Q, g v σ H Q → g v σ H fun σ2 H2 => wipe σ2 vs = wipe σ vs ∧ Q σ2 H2
theorem wp_nm {vs : List Nat} {i : Nat} (h : i ∈ vs) : WpG vs (gName i) := fun v σ H Q q => ⟨wipe_in h, q⟩
theorem wp_nil {vs : List Nat} : WpGs vs gNil := fun v σ H Q ⟨e, q⟩ => ⟨e, rfl, q⟩
theorem WpG.im {vs : List Nat} {g : TG} (h : WpG vs g) (mono : ∀ v σ H (Q Q' : L2.St → Hp → Prop), (∀ σ H, Q σ H → Q' σ H) → g v σ H Q → g v σ H Q') : WpG vs g := h
/-- targets keep what is wished of them -/
def MonG (g : TG) : Prop := ∀ v σ H (Q Q' : L2.St → Hp → Prop), (∀ σ H, Q σ H → Q' σ H) → g v σ H Q → g v σ H Q'
def MonGs (g : TGs) : Prop := ∀ v σ H (Q Q' : L2.St → Hp → Prop), (∀ σ H, Q σ H → Q' σ H) → g v σ H Q → g v σ H Q'
theorem mon_nm {i : Nat} : MonG (gName i) := fun v σ H Q Q' h q => h _ _ q
theorem mon_nil : MonGs gNil := fun v σ H Q Q' h q => ⟨q.1, h _ _ q.2⟩
theorem mon_cons {g : TG} {gs : TGs} (h1 : MonG g) (h2 : MonGs gs) : MonGs (gCons g gs) := fun v σ H Q Q' h ⟨a, r, e, q⟩ => ⟨a, r, e, h1 _ _ _ _ _ (fun σ H q => h2 _ _ _ _ _ h q) q⟩
theorem mon_tup {K : PySem.W.Frag} {n : Nat} {gs : TGs} (h2 : MonGs gs) : MonG (gTup K n gs) := fun v σ H Q Q' h ⟨a, xs, e, s, l, q⟩ => ⟨a, xs, e, s, l, h2 _ _ _ _ _ h q⟩
theorem wp_cons {vs : List Nat} {g : TG} {gs : TGs} (h1 : WpG vs g) (h2 : WpGs vs gs) (m1 : MonG g) (m2 : MonGs gs) : WpGs vs (gCons g gs) := fun v σ H Q ⟨a, r, e, q⟩ => ⟨a, r, e, m1 _ _ _ _ _ (fun σ2 H2 ⟨e2, q2⟩ => m2 _ _ _ _ _ (fun σ3 H3 ⟨e3, q3⟩ => ⟨e3.trans e2, q3⟩) (h2 _ _ _ _ q2)) (h1 _ _ _ _ q)⟩
theorem wp_tup {vs : List Nat} {K : PySem.W.Frag} {n : Nat} {gs : TGs} (h2 : WpGs vs gs) : WpG vs (gTup K n gs) := fun v σ H Q ⟨a, xs, e, s, l, q⟩ => ⟨a, xs, e, s, l, h2 _ _ _ _ q⟩

/-- no exception leaves -/
abbrev WF : WX := fun _ _ _ _ => False
structure PTf (X : Cx) (C : Cf) (W : WX) (ifs : List Expr) (tt : TT) (f : PTx) : Prop where
  pe : PTs X ifs tt
  ev : EvT C W tt f
def fYes : PTx := fun _ => some (.ok true)
section
variable {C : Cf} {H0 H1 H : Hp} {Ox : List Addr} {σ : L2.St} {Γ : Ga}
theorem ow_cons {D : Addr} {a : Addr} : a ∈ ow C.fl (D :: Ox) σ Γ ↔ a ∈ ow C.fl Ox σ Γ ∨ a = D := by
  constructor
  · intro h
    rcases mem_ow.mp h with q | q
    · exact .inl (mem_ow.mpr (.inl q))
    · rcases List.mem_cons.mp q with e | e
      · exact .inr e
      · exact .inl (mem_ow.mpr (.inr e))
  · intro h
    rcases h with h | h
    · rcases mem_ow.mp h with q | q
      · exact mem_ow.mpr (.inl q)
      · exact mem_ow.mpr (.inr (List.mem_cons_of_mem _ q))
    · exact mem_ow.mpr (.inr (by rw [h]; exact List.mem_cons_self))
/-- what is no longer there may change -/
theorem sm_off {O : List Addr} {D : Addr} {o : HO} (h : Sm H0 (mask O H)) (n : H0 D = none) : Sm H0 (mask O (upd H D o)) := by
  refine ⟨fun a u e k => ?_, fun P t => ?_⟩
  · obtain ⟨e1, e2⟩ := mask_some (h.1 a u e k)
    rw [mask_out e2, upd_ne (ne_of_none e n)]
    exact e1
  · obtain ⟨ps, e, _⟩ := id t
    obtain ⟨qs, e1, t1⟩ := h.2 P t
    obtain ⟨e2, e3⟩ := mask_some e1
    exact ⟨qs, by rw [mask_out e3, upd_ne (ne_of_none e n)]; exact e2, t1⟩
theorem sm_off' {D : Addr} {o : HO} (h : Sm H0 H) (n : H0 D = none) : Sm H0 (upd H D o) := by
  have := sm_off (O := []) (o := o) (by rw [mask_nil]; exact h) n
  rwa [mask_nil] at this
theorem EnvR.addOx (E : EnvR C H0 Ox σ Γ H) {D : Addr} {xs : List V} (h : H D = none) : EnvR C H0 (D :: Ox) σ Γ (upd H D (.lst xs)) := by
  have sm : ∀ O', (∀ a ∈ O', a ∈ ow C.fl Ox σ Γ ∨ a = D) → Sm (mask (ow C.fl Ox σ Γ) H) (mask O' (upd H D (.lst xs))) := fun O' s => sm_fresh h s
  refine ⟨E.len, E.tabs, E.sm.trans (sm_fresh h fun a ha => .inl ha), fun i d hd hn => ?_, fun i d hd hn => ?_, E.apart, fun l hl => ?_, E.pn⟩
  · obtain ⟨v, e1, e2⟩ := E.val i d hd hn
    exact ⟨v, e1, e2.sm (sm _ fun a ha => ow_cons.mp ha)⟩
  · obtain ⟨l, o, e1, e2, e3, e4⟩ := E.own i d hd hn
    have ne := ne_of_none e2 h
    exact ⟨l, o, e1, by rw [upd_ne ne]; exact e2, e3.sm (sm _ fun a ha => ow_cons.mp ha), fun q => (List.mem_cons.mp q).elim ne e4⟩
  · by_cases q : l = D
    · rw [q, upd_same]; trivial
    · rw [upd_ne q]
      exact E.ox l ((List.mem_cons.mp hl).resolve_left q)
theorem EnvR.chgOx (E : EnvR C H0 Ox σ Γ H) {D : Addr} {xs : List V} (h : D ∈ Ox) (n : H0 D = none) : EnvR C H0 Ox σ Γ (upd H D (.lst xs)) := by
  have hm : D ∈ ow C.fl Ox σ Γ := mem_ow.mpr (.inr h)
  refine ⟨E.len, E.tabs, sm_off E.sm n, fun i d hd hn => ?_, fun i d hd hn => ?_, E.apart, fun l hl => ?_, E.pn⟩
  · rw [mask_upd_in hm]; exact E.val i d hd hn
  · rw [mask_upd_in hm]
    obtain ⟨l, o, e1, e2, e3, e4⟩ := E.own i d hd hn
    exact ⟨l, o, e1, by rw [upd_ne (fun e => e4 (by rw [e]; exact h))]; exact e2, e3, e4⟩
  · by_cases q : l = D
    · rw [q, upd_same]; trivial
    · rw [upd_ne q]
      exact E.ox l hl
theorem sm_out {O : List Addr} {D : Addr} (h : Sm H0 H) (n : H0 D = none) : Sm H0 (mask [D] H) := by
  refine ⟨fun a u e k => ?_, fun P t => ?_⟩
  · have ne := ne_of_none e n
    rw [mask_out (by simpa using ne)]
    exact h.1 a u e k
  · obtain ⟨ps, e, _⟩ := id t
    obtain ⟨qs, e1, t1⟩ := h.2 P t
    have ne := ne_of_none e n
    exact ⟨qs, by rw [mask_out (by simpa using ne)]; exact e1, t1⟩
end

/-! ### [e for t in xs if c] -/
def lcI (vs : List Nat) (b : BX) (ft : PTx) (f : PX) (Γ : Ga) (d : PyData) : Option (Option PyData) := match b d (wipeG Γ vs) with
  | none => none
  | some Γ1 => match ft Γ1 with
    | some (.ok true) => (match f Γ1 with
      | some (.ok y) => some (some y)
      | _ => none)
    | some (.ok false) => some none
    | _ => none
def lcL (item : PyData → Option (Option PyData)) : List PyData → Option (List PyData)
  | [] => some []
  | d :: ds => match item d with
    | some (some y) => (lcL item ds).map (y :: ·)
    | some none => lcL item ds
    | none => none
def lcX (i : PIx) (vs : List Nat) (b : BX) (ft : PTx) (f : PX) : PX := fun Γ => match i Γ with
  | some (.ok ds) => if ds.length ≤ big then (lcL (lcI vs b ft f Γ) ds).map fun ys => .ok (.list ys) else none
  | some (.error e) => some (.error e)
  | none => none
theorem lcL_snoc {item : PyData → Option (Option PyData)} {d : PyData} {o : Option PyData} (h : item d = some o) : ∀ {xs acc : List PyData}, lcL item xs = some acc → lcL item (xs ++ [d]) = some (acc ++ o.toList)
  | [], acc, e => by
    cases e
    rw [List.nil_append, lcL, h]
    cases o <;> rfl
  | x :: xs, acc, e => by
    rw [lcL] at e
    rw [List.cons_append, lcL]
    cases h1 : item x with
    | none => rw [h1] at e; cases e
    | some o1 =>
      rw [h1] at e
      cases o1 with
      | none => exact lcL_snoc h e
      | some y =>
        simp only at e ⊢
        cases h2 : lcL item xs with
        | none => rw [h2] at e; cases e
        | some a2 =>
          rw [h2] at e
          cases e
          rw [lcL_snoc h h2]
          rfl
theorem lcL_item {item : PyData → Option (Option PyData)} : ∀ {xs acc : List PyData}, lcL item xs = some acc → ∀ d ∈ xs, ∃ o, item d = some o
  | [], _, _, _, hd => by cases hd
  | x :: xs, acc, e, d, hd => by
    rw [lcL] at e
    cases h1 : item x with
    | none => rw [h1] at e; cases e
    | some o1 =>
      rcases List.mem_cons.mp hd with q | q
      · exact ⟨o1, by rw [q]; exact h1⟩
      · rw [h1] at e
        cases o1 with
        | none => exact lcL_item e d q
        | some y =>
          simp only at e
          cases h2 : lcL item xs with
          | none => rw [h2] at e; cases e
          | some a2 => exact lcL_item h2 d q
theorem lcL_le {item : PyData → Option (Option PyData)} : ∀ {xs acc : List PyData}, lcL item xs = some acc → acc.length ≤ xs.length
  | [], _, e => by cases e; exact Nat.le_refl _
  | x :: xs, acc, e => by
    rw [lcL] at e
    cases h1 : item x with
    | none => rw [h1] at e; cases e
    | some o1 =>
      rw [h1] at e
      cases o1 with
      | none => exact Nat.le_succ_of_le (lcL_le e)
      | some y =>
        simp only at e
        cases h2 : lcL item xs with
        | none => rw [h2] at e; cases e
        | some a2 =>
          rw [h2] at e
          cases e
          exact Nat.succ_le_succ (lcL_le h2)
section
variable {X : Cx} {C : Cf} {W : WX} {m : Md} {k : Nat} {elt tg iter : Expr} {ifs : List Expr} {scope : Scope} {own : List (Str × Nat)} {pos : Pos} {wi : TI} {fi : PIx} {g : TG} {b : BX} {tt : TT} {ft : PTx} {te : TE} {f : PX}
theorem ev_lc (hi : EvI C W wi fi) (hg : EvG C g b) (hw : WpG (own.map (·.2)) g) (ht : EvT C WF tt ft) (he : Ev C WF .st te f) (hfl : ∀ i ∈ own.map (·.2), C.plain i = true) : EvF C W m (tLc wi g tt te (own.map (·.2))) (lcX fi (own.map (·.2)) b ft f) := fun Γ r hr H0 Ox σ H E Q q => by
  unfold lcX at hr
  cases h1 : fi Γ with
  | none => rw [h1] at hr; cases hr
  | some r1 =>
    rw [h1] at hr
    cases r1 with
    | error x =>
      cases hr
      exact hi Γ _ h1 H0 Ox σ H E _ q
    | ok ds =>
      simp only at hr
      by_cases hz : ds.length ≤ big
      · rw [if_pos hz] at hr
        cases h2 : lcL (lcI (own.map (·.2)) b ft f Γ) ds with
        | none => rw [h2] at hr; cases hr
        | some ys =>
          rw [h2] at hr
          cases hr
          refine hi Γ _ h1 H0 Ox σ H E _ fun J Ha s1 w D hD => ?_
          have E1 := E.step s1
          obtain ⟨G, Y, wk, hG, hY⟩ := w
          obtain ⟨E2, oe⟩ := E1.rebase.wipe hfl
          have E3 := E2.addOx (xs := []) hD
          have hD0 : mask (ow C.fl [] σ Γ) Ha D = none := by
            unfold mask
            split
            · rfl
            · exact hD
          have gr : ∀ {Γ' : Ga} {σ' : L2.St} {H' : Hp}, EnvR C (mask (ow C.fl [] σ Γ) Ha) (D :: Ox) σ' Γ' H' → Sm (mask (ow C.fl Ox σ Γ) Ha) (mask (ow C.fl (D :: Ox) σ' Γ') H') := fun E' => by
            have h3 := E'.all
            have e : mask (D :: Ox) (mask (ow C.fl [] σ Γ) Ha) = mask (ow C.fl Ox σ Γ) Ha := by
              rw [← mask_two (Ox := Ox) (σ := σ) (Γ := Γ) (C := C)]
              funext a
              by_cases q1 : a ∈ Ox
              · rw [mask_in q1, mask_in (List.mem_cons_of_mem _ q1)]
              · rw [mask_out q1]
                by_cases q2 : a = D
                · rw [q2, mask_in List.mem_cons_self, hD0]
                · exact mask_out fun q3 => (List.mem_cons.mp q3).elim q2 q1
            rwa [e] at h3
          have inD : ∀ {σ' : L2.St} {Γ' : Ga}, D ∈ ow C.fl (D :: Ox) σ' Γ' := mem_ow.mpr (.inr List.mem_cons_self)
          refine lc_it wk (fun i H' => ∃ acc vs, lcL (lcI (own.map (·.2)) b ft f Γ) (ds.take i) = some acc ∧ H' D = some (.lst vs) ∧ RpL C.K (mask (ow C.fl (D :: Ox) (wipe σ (own.map (·.2))) (wipeG Γ (own.map (·.2)))) H') acc vs ∧
            EnvR C (mask (ow C.fl [] σ Γ) Ha) (D :: Ox) (wipe σ (own.map (·.2))) (wipeG Γ (own.map (·.2))) H' ∧ Sm Ha H') ⟨[], [], rfl, upd_same, rpl_nil, E3, Sm.new hD⟩ (fun i H' _ ⟨_, _, _, _, _, E', _⟩ => hG H' ((gr E').trans (mask_le _ _))) (fun i x Hb Hc hlt ⟨acc, vs, k1, k2, k3, E', k5⟩ y => ?_) fun H' ⟨acc, vs, k1, k2, k3, E', k5⟩ => ?_
          · have hd : ds[i]? = some ds[i] := by simp [hlt]
            obtain ⟨s2, p2⟩ := hY i ds[i] Hb x Hc hd y _ (gr E') E'.mut
            have E4 := E'.step s2
            obtain ⟨o, ho⟩ := lcL_item h2 ds[i] (List.getElem_mem hlt)
            have tk : ds.take (i + 1) = ds.take i ++ [ds[i]] := by rw [List.take_succ, hd]; rfl
            have acc' : lcL (lcI (own.map (·.2)) b ft f Γ) (ds.take (i + 1)) = some (acc ++ o.toList) := by rw [tk]; exact lcL_snoc ho k1
            unfold lcI at ho
            cases h3 : b ds[i] (wipeG Γ (own.map (·.2))) with
            | none => rw [h3] at ho; cases ho
            | some Γ1 =>
              rw [h3] at ho
              simp only at ho
              have wi2 : wipe (wipe σ (own.map (·.2))) (own.map (·.2)) = wipe σ (own.map (·.2)) := wipe_idem fun i hi => hi
              have hw' : ∀ Q, g x (wipe σ (own.map (·.2))) Hc Q → g x (wipe σ (own.map (·.2))) Hc (fun σ2 H2 => wipe σ2 (own.map (·.2)) = wipe σ (own.map (·.2)) ∧ Q σ2 H2) := fun Q h => by
                have := hw x _ Hc Q h
                simpa only [wi2] using this
              refine hw' _ (hg ds[i] _ Γ1 h3 _ _ _ Hc x E4 p2 _ fun σ2 E5 oe2 => ?_)
              have fin : ∀ H4, Sm Ha H4 → EnvR C (mask (ow C.fl [] σ Γ) Ha) (D :: Ox) (wipe σ (own.map (·.2))) (wipeG Γ (own.map (·.2))) H4 → True := fun _ _ _ => trivial
              have hkeep : ∀ {Hd : Hp}, Stp (ow C.fl (D :: Ox) σ2 Γ1) Hc Hd → Stp (ow C.fl (D :: Ox) (wipe σ (own.map (·.2))) (wipeG Γ (own.map (·.2)))) Hb Hd := fun s4 => s2.trans (by rw [← oe2]; exact s4)
              cases h4 : ft Γ1 with
              | none => rw [h4] at ho; cases ho
              | some rt =>
                rw [h4] at ho
                cases rt with
                | error x => cases ho
                | ok bb =>
                  refine ht Γ1 _ h4 _ _ σ2 Hc E5 _ fun H3 s3 => ?_
                  cases bb with
                  | false =>
                    cases ho
                    rw [if_neg Bool.false_ne_true]
                    have st := hkeep s3
                    refine ⟨acc, vs, by simpa using acc', by rw [st.2 D inD]; exact k2, RpL.sm st.1 _ _ k3, E'.step st, k5.trans (st.sm E'.mut)⟩
                  | true =>
                    rw [if_pos rfl]
                    simp only at ho
                    cases h5 : f Γ1 with
                    | none => rw [h5] at ho; cases ho
                    | some rf =>
                      rw [h5] at ho
                      cases rf with
                      | error x => cases ho
                      | ok yd =>
                        cases ho
                        refine he Γ1 _ h5 _ _ σ2 H3 (E5.step s3) _ fun yv H4 s4 p4 => ?_
                        have st := hkeep (s3.trans s4)
                        have kD : H4 D = some (.lst vs) := by rw [st.2 D inD]; exact k2
                        have lv : vs.length < sizeLine := by
                          have l1 := lcL_le k1
                          rw [← rpl_len k3]
                          have : (ds.take i).length ≤ i := List.length_take_le i ds
                          exact Nat.lt_of_lt_of_le (show acc.length < big by omega) (by decide)
                        have E6 := E'.step st
                        refine ⟨vs, kD, lv, acc ++ [yd], vs ++ [yv], acc', upd_same, ?_, E6.chgOx List.mem_cons_self hD0, sm_off' (k5.trans (st.sm E'.mut)) hD⟩
                        rw [mask_upd_in inD]
                        exact rpl_app (RpL.sm st.1 _ _ k3) (rpl_cons (by rw [oe2] at p4; exact p4) rpl_nil)
          · rw [List.take_length] at k1
            rw [h2] at k1
            cases k1
            have e : upd (mask [D] H') D (.lst vs) = H' := by
              funext a
              by_cases q1 : a = D
              · rw [q1, upd_same, k2]
              · rw [upd_ne q1]
                exact mask_out (by simpa using q1)
            have sE := sm_out (O := []) k5 hD
            have := q D (.lst vs) (mask [D] H') (s1.trans (.of_sm sE E1.mut)) (mask_in (by simp)) ⟨vs, rfl, ?_⟩
            · rwa [e] at this
            · refine RpL.sm (hm_lt (s1.trans (Stp.of_sm sE E1.mut) |>.ows E.ows)) _ _ (RpL.sm ?_ _ _ k3)
              refine .of_le fun a u ea => ?_
              obtain ⟨e1, e2⟩ := mask_some ea
              have n1 : a ∉ ow C.fl Ox σ Γ := fun z => e2 (ow_cons.mpr (.inl (by rw [oe]; exact z)))
              have n2 : a ≠ D := fun z => e2 (ow_cons.mpr (.inr z))
              rw [mask_out n1, mask_out (by simpa using n2)]
              exact e1
      · rw [if_neg hz] at hr; cases hr
theorem On.blk (o : On X C k) {s : Shared} {H : Hp} {env : Env} {fp : List Addr} : On (X.blk s H scope env fp) C k := ⟨o.K, o.mg, o.un, o.rm, o.nd⟩
abbrev cEnv (X : Cx) (scope : Scope) (cl : List (Str × Addr)) (c : Addr) : Env := compEnvC scope cl c X.env
theorem pf_lc (o : On X C k) (cm : X.calm = true) (hi : PIt X C W tg iter wi fi) (ok : BlkOk X.N X.env.scope scope own) (hw : WpG (own.map (·.2)) g) (hfl : (own.map (·.2)).all C.plain = true)
    (hg : ∀ s H c cl fp, PTg (X.blk s H scope (cEnv X scope cl c) fp) C tg g b) (ht : ∀ s H c cl fp, PTf (X.blk s H scope (cEnv X scope cl c) fp) C WF ifs tt ft) (he : ∀ s H c cl fp, PP (X.blk s H scope (cEnv X scope cl c) fp) C WF .st elt te f)
    (hs : ∀ x, foldedSetIterable iter X.env x = pure x := by intro _; rfl) : PF X C W m (.ListComp elt [⟨tg, iter, ifs, 0⟩] scope pos) (tLc wi g tt te (own.map (·.2))) (lcX fi (own.map (·.2)) b ft f) :=
  ⟨pe_lc cm o.nd hi.pe ok (fun s H c cl fp => (hg s H c cl fp).pe) (fun s H c cl fp => (ht s H c cl fp).pe) (fun s H c cl fp => (he s H c cl fp).pe) hs,
    ev_lc hi.ev (hg X.s_0 X.H_0 0 [] []).ev hw (ht X.s_0 X.H_0 0 [] []).ev (he X.s_0 X.H_0 0 [] []).ev (List.all_eq_true.mp hfl)⟩
/-- name = [..] on one line -/
theorem st_setLc (o : On X C k) (cm : X.calm = true) (i : Nat) {y : Str} {py spos : Pos} (hi : PIt X C W tg iter wi fi) (ok : BlkOk X.N X.env.scope scope own) (hw : WpG (own.map (·.2)) g) (hfl : (own.map (·.2)).all C.plain = true)
    (hg : ∀ s H c cl fp, PTg (X.blk s H scope (cEnv X scope cl c) fp) C tg g b) (ht : ∀ s H c cl fp, PTf (X.blk s H scope (cEnv X scope cl c) fp) C WF ifs tt ft) (he : ∀ s H c cl fp, PP (X.blk s H scope (cEnv X scope cl c) fp) C WF .st elt te f)
    (hsw : swapsWith (.ListComp elt [⟨tg, iter, ifs, 0⟩] scope pos) (some (.Name y py)) spos.line X.env = pure true) (hn : C.plain i = true := by rfl) (hN : X.N[i]? = some y := by rfl) (hl : X.env.scope.names.lookup y = some .local := by rfl)
    (hs : ∀ x, foldedSetIterable iter X.env x = pure x := by intro _; rfl) : PSt X C W (.Assign [.Name y py] (.ListComp elt [⟨tg, iter, ifs, 0⟩] scope pos) spos) (tAsg (tLc wi g tt te (own.map (·.2))) (gName i)) (asgX (lcX fi (own.map (·.2)) b ft f) (bNm i)) :=
  ⟨ps_setLc cm o.nd hN hl hsw hi.pe ok (fun s H c cl fp => (hg s H c cl fp).pe) (fun s H c cl fp => (ht s H c cl fp).pe) (fun s H c cl fp => (he s H c cl fp).pe) hs,
    ev_asg (evF_ev (ev_lc hi.ev (hg X.s_0 X.H_0 0 [] []).ev hw (ht X.s_0 X.H_0 0 [] []).ev (he X.s_0 X.H_0 0 [] []).ev (List.all_eq_true.mp hfl))) fun d Γ Γ' hb H0 Ox σ H v E p Q q => by
      cases hb
      exact q _ (E.set (pl1 hn) (pl2 hn) p) (ow_set (pl1 hn))⟩
/-- the same, a list that is changed in place -/
theorem st_setLcF (o : On X C k) (cm : X.calm = true) (i : Nat) {y : Str} {py spos : Pos} (hi : PIt X C W tg iter wi fi) (ok : BlkOk X.N X.env.scope scope own) (hw : WpG (own.map (·.2)) g) (hfl : (own.map (·.2)).all C.plain = true)
    (hg : ∀ s H c cl fp, PTg (X.blk s H scope (cEnv X scope cl c) fp) C tg g b) (ht : ∀ s H c cl fp, PTf (X.blk s H scope (cEnv X scope cl c) fp) C WF ifs tt ft) (he : ∀ s H c cl fp, PP (X.blk s H scope (cEnv X scope cl c) fp) C WF .st elt te f)
    (hsw : swapsWith (.ListComp elt [⟨tg, iter, ifs, 0⟩] scope pos) (some (.Name y py)) spos.line X.env = pure true) (hn : C.fl.contains i = true := by rfl) (hpn : (C.pin.all fun p => p.1 != i) = true := by rfl) (hN : X.N[i]? = some y := by rfl) (hl : X.env.scope.names.lookup y = some .local := by rfl)
    (hs : ∀ x, foldedSetIterable iter X.env x = pure x := by intro _; rfl) : PSt X C W (.Assign [.Name y py] (.ListComp elt [⟨tg, iter, ifs, 0⟩] scope pos) spos) (tAsg (tLc wi g tt te (own.map (·.2))) (gName i)) (asgX (lcX fi (own.map (·.2)) b ft f) (bNmF i)) :=
  ⟨ps_setLc cm o.nd hN hl hsw hi.pe ok (fun s H c cl fp => (hg s H c cl fp).pe) (fun s H c cl fp => (ht s H c cl fp).pe) (fun s H c cl fp => (he s H c cl fp).pe) hs,
    fun Γ r hr H0 Ox σ H E D q => by
      have ev : EvF C W .st (tLc wi g tt te (own.map (·.2))) (lcX fi (own.map (·.2)) b ft f) := ev_lc hi.ev (hg X.s_0 X.H_0 0 [] []).ev hw (ht X.s_0 X.H_0 0 [] []).ev (he X.s_0 X.H_0 0 [] []).ev (List.all_eq_true.mp hfl)
      show tLc wi g tt te (own.map (·.2)) σ H fun x H1 => D.nx (σ.set i (some x)) H1
      unfold asgX bNmF at hr
      split at hr
      · rename_i d h1
        by_cases lt : i < Γ.length
        · rw [if_pos lt] at hr; cases hr
          exact ev Γ _ h1 H0 Ox σ H E _ fun l o H' s hl p => q _ _ ((E.step s).setF (yfl hn) (npn hpn) lt hl p)
        · rw [if_neg lt] at hr; cases hr
      · rename_i x h1
        cases hr
        exact ev Γ _ h1 H0 Ox σ H E _ fun H' s => q σ H' (E.step s)
      · cases hr⟩
theorem ptf_nil : PTf X C W [] tYes fYes := ⟨pts_nil, fun Γ r hr H0 Ox σ H E Q q => by cases hr; exact q H (.refl _ _)⟩
theorem ptf_one {c : Expr} (h : PTt X C W c tt ft) : PTf X C W [c] tt ft := ⟨pts_one h.pe, h.ev⟩

/-! ### all(e for t in xs) -/
def alI (vs : List Nat) (b : BX) (f : PX) (Γ : Ga) (d : PyData) : Option Bool := match b d (wipeG Γ vs) with
  | none => none
  | some Γ1 => match f Γ1 with
    | some (.ok (.bool y)) => some y
    | _ => none
def alL (item : PyData → Option Bool) : List PyData → Option Bool
  | [] => some true
  | d :: ds => match item d with
    | some true => alL item ds
    | some false => some false
    | none => none
def alX (i : PIx) (vs : List Nat) (b : BX) (f : PX) : PX := fun Γ => match i Γ with
  | some (.ok ds) => (alL (alI vs b f Γ) ds).map fun y => .ok (.bool y)
  | some (.error e) => some (.error e)
  | none => none
theorem ev_all {P : Addr} (hP : P ∈ C.Ts) (hi : EvI C W wi fi) (hg : EvG C g b) (hw : WpG (own.map (·.2)) g) (he : Ev C WF .rd te f) (hfl : ∀ i ∈ own.map (·.2), C.plain i = true) : Ev C W m (tAll wi g te (own.map (·.2)) P) (alX fi (own.map (·.2)) b f) := fun Γ r hr H0 Ox σ H E Q q => by
  unfold alX at hr
  cases h1 : fi Γ with
  | none => rw [h1] at hr; cases hr
  | some r1 =>
    rw [h1] at hr
    cases r1 with
    | error x =>
      cases hr
      exact hi Γ _ h1 H0 Ox σ H E _ q
    | ok ds =>
      simp only at hr
      cases h2 : alL (alI (own.map (·.2)) b f Γ) ds with
      | none => rw [h2] at hr; cases hr
      | some z =>
        rw [h2] at hr
        cases hr
        refine hi Γ _ h1 H0 Ox σ H E _ fun J Ha s1 w => ?_
        have E1 := E.step s1
        have tb : TabOk Ha P := by
          obtain ⟨qs, e1, t1⟩ := E1.sm.2 P (E1.tabs P hP)
          exact ⟨qs, (mask_some e1).1, t1⟩
        refine ⟨tb, fun Hg gr => ?_⟩
        have sg : Stp (ow C.fl Ox σ Γ) Ha Hg := .of_sm (.grown tb gr) E1.mut
        have Eg := E1.step sg
        obtain ⟨G, Y, wk, hG, hY⟩ := w
        obtain ⟨E2, oe⟩ := Eg.rebase.wipe hfl
        have wi2 : wipe (wipe σ (own.map (·.2))) (own.map (·.2)) = wipe σ (own.map (·.2)) := wipe_idem fun i hi => hi
        have gm : ∀ {Γ' : Ga} {σ' : L2.St} {H' : Hp}, EnvR C (mask (ow C.fl [] σ Γ) Hg) Ox σ' Γ' H' → Sm (mask (ow C.fl Ox σ Γ) Ha) (mask (ow C.fl Ox σ' Γ') H') := fun E' => by
          have h3 := E'.all
          rw [mask_two] at h3
          exact sg.1.trans h3
        refine ⟨fun i n H' => n = ds.length - i ∧ i ≤ ds.length ∧ alL (alI (own.map (·.2)) b f Γ) (ds.drop i) = some z ∧ EnvR C (mask (ow C.fl [] σ Γ) Hg) Ox (wipe σ (own.map (·.2))) (wipeG Γ (own.map (·.2))) H' ∧ Stp (ow C.fl Ox σ Γ) Ha H', ⟨ds.length, by simp, Nat.zero_le _, h2, E2, sg⟩, ?_⟩
        rintro i n H' ⟨rfl, hi', k1, E', k2⟩
        have hGG := hG H' ((gm E').trans (mask_le _ _))
        by_cases hlt : i < ds.length
        · refine .inr ⟨wk.goes i H' hlt hGG, fun x Hc y => ?_⟩
          have hd : ds[i]? = some ds[i] := by simp [hlt]
          obtain ⟨s2, p2⟩ := hY i ds[i] H' x Hc hd (wk.yields i H' x Hc hlt hGG y) _ (gm E') E'.mut
          have E4 := E'.step s2
          rw [List.drop_eq_getElem_cons hlt] at k1
          unfold alL at k1
          have hw' : ∀ Q, g x (wipe σ (own.map (·.2))) Hc Q → g x (wipe σ (own.map (·.2))) Hc (fun σ2 H2 => wipe σ2 (own.map (·.2)) = wipe σ (own.map (·.2)) ∧ Q σ2 H2) := fun Q h => by
            have := hw x _ Hc Q h
            simpa only [wi2] using this
          cases h3 : b ds[i] (wipeG Γ (own.map (·.2))) with
          | none => unfold alI at k1; rw [h3] at k1; cases k1
          | some Γ1 =>
            refine hw' _ (hg ds[i] _ Γ1 h3 _ _ _ Hc x E4 p2 _ fun σ2 E5 oe2 => ?_)
            unfold alI at k1
            rw [h3] at k1
            simp only at k1
            cases h4 : f Γ1 with
            | none => rw [h4] at k1; cases k1
            | some rf =>
              rw [h4] at k1
              cases rf with
              | error x => cases k1
              | ok yd =>
                cases yd with
                | bool bb =>
                  refine he Γ1 _ h4 _ _ σ2 Hc E5 _ fun yv H4 s4 p4 => ?_
                  have st : Stp (ow C.fl Ox (wipe σ (own.map (·.2))) (wipeG Γ (own.map (·.2)))) H' H4 := s2.trans (by rw [← oe2]; exact s4)
                  have st2 : Stp (ow C.fl Ox σ Γ) Ha H4 := k2.trans (by rw [← oe]; exact st)
                  refine ⟨bb, rp_bool p4, fun hb => ?_, fun hb => ?_⟩
                  · subst hb
                    exact ⟨ds.length - (i + 1), by omega, rfl, hlt, k1, E'.step st, st2⟩
                  · subst hb
                    cases k1
                    exact q _ H4 (s1.trans st2) mk_bool
                | none => cases k1
                | int _ => cases k1
                | str _ => cases k1
                | list _ => cases k1
                | tuple _ => cases k1
                | dict _ => cases k1
        · have e : i = ds.length := by omega
          subst e
          rw [List.drop_length] at k1
          cases k1
          exact .inl ⟨wk.stops H' hGG, q _ H' (s1.trans k2) mk_bool⟩
theorem On.gen (o : On X C (k + 1)) {s : Shared} {H : Hp} {ge : Env} {B : Around} {fp : List Addr} (hB : Room k B) : On (gcx X s H ge B fp) C k := .mk' o.K o.mg hB o.nd
theorem OnK.gen (o : OnK X C) {s : Shared} {H : Hp} {ge : Env} {B : Around} {fp : List Addr} : OnK (gcx X s H ge B fp) C := ⟨o.K, o.nd⟩
theorem pp_allG {c P : Addr} {p gpos : Pos} (o : On X C (k + 1)) (cm : X.calm = true) (hgl : Gl X "all") (hm : X.mg "all" = none) (hP : P ∈ C.Ts) (TB : LamX.TabB X.base X.mg c P) (hcode : X.env.code = .ref c)
    (hi : PIt X C W tg iter wi fi) (ok : BlkOk X.N X.env.scope scope own) (hw : WpG (own.map (·.2)) g) (hfl : (own.map (·.2)).all C.plain = true) (hco : scope.isCoroutine = false) (hcell : ∀ y ∈ scope.names, y.2 ≠ .cell) (h0 : scope.names.lookup (".0" : Str) = some NameKind.local) (hdot : (".0" : Str) ∉ X.N)
    (hg : ∀ s H (ge : Env) B fp, PTg (gcx X s H { ge with scope := scope } B fp) C tg g b) (he : ∀ s H (ge : Env) B fp, Room k B → PP (gcx X s H { ge with scope := scope } B fp) C WF .rd elt te f)
    (hs : ∀ v, genFold iter X.env v = pure v := by intro _; rfl)
    (hes : starEach [GE elt tg iter scope gpos] X.env = (false, eval (GE elt tg iter scope gpos) X.env) :: starEach [] X.env := by rfl) :
    PP X C W m (.Call (.Name "all" p) [GE elt tg iter scope gpos] [] pos) (tAll wi g te (own.map (·.2)) P) (alX fi (own.map (·.2)) b f) :=
  have eq : ∀ ge : Env, ge.scope = scope → ge = { ge with scope := scope } := fun ge q => by rw [← q]
  ⟨pe_all (o.rm cm) hgl hm TB hcode cm o.nd hi.pe ok hco hcell h0 hdot (fun s H ge B fp q => by rw [eq ge q]; exact (hg s H ge B fp).pe) (fun s H ge B fp q r => by rw [eq ge q]; exact (he s H ge B fp r).pe) hs hes, ev_all hP hi.ev (hg X.s_0 X.H_0 X.env X.A []).ev hw (he X.s_0 X.H_0 X.env X.A [] ((o.rm cm).mono (Nat.le_succ k))).ev (List.all_eq_true.mp hfl)⟩
end
end Z

set_option Elab.async false
set_option linter.all false
set_option maxRecDepth 100000
set_option maxHeartbeats 4000000
namespace Z
open PySem PySem.Spec PyProof.Rows L2

/-! ## calls of own defs -/
abbrev FX := List PyData → Option Res
def spF (C : Cb) (n : Nat) (F : FX) : Sp := fun vs H Q E => vs.length = n ∧ ∃ ds r O, MutAll O H ∧ (∀ P ∈ C.Ts, TabOk H P) ∧ RpL C.K (mask O H) ds vs ∧ F ds = some r ∧
  match r with
  | .ok d => ∀ v H', Sm H H' → Rp C.K (mask O H') d v → Q v H'
  | .error (.own c) => ∀ H', Sm H H' → E (cv C.mg c) none H'
  | .error (.fld c f d) => ∀ H' dd v, Sm H H' → H' dd = none → Rp C.K H' d v → E (cv C.mg c) (some dd) (upd H' dd (.xd [(f, v)]))
/-- the def named x keeps to F -/
structure Df (P : Program) (w : World) (base : Heap) (C : Cb) (x : Str) (k n : Nat) (F : FX) : Prop where
  ex : ∃ f fd ps, C.mg x = some (.ref f) ∧ PySem.W.keepIn C.K (.ref f) = true ∧ (∀ us : List Value, us.length = ps.length → bindArgs fd ⟨us, []⟩ = pure (ps.zip us)) ∧ FnOk P w C.K C.mg base (L2.CX P w) k f fd ps (spF C n F)
  ln : ∀ ds r, F ds = some r → ds.length = n
def callX (f : PAx) (F : FX) : PX := fun Γ => match f Γ with
  | some (.ok ds) => F ds
  | some (.error e) => some (.error e)
  | none => none
def om (m : Md) (O Ox : List Addr) : List Addr := match m with
  | .st => O
  | .mid => Ox
  | .rd => []
theorem hm_om {m : Md} {O Ox : List Addr} {H : Hp} : hm m O Ox H = mask (om m O Ox) H := by
  cases m with
  | st => rfl
  | mid => rfl
  | rd => exact (mask_nil H).symm
theorem om_sub {m : Md} {O Ox : List Addr} {H : Hp} (mu : Ows O Ox H) : ∀ a ∈ om m O Ox, a ∈ O := by
  cases m with
  | st => exact fun a h => h
  | mid => exact mu.sub
  | rd => exact fun a h => by cases h
section
variable {X : Cx} {C : Cf} {W : WX} {m : Md} {k j n : Nat} {e : Expr} {es : List Expr} {t : TA} {g : PAx} {x : Str} {F : FX} {p pos : Pos}
theorem ev_sp (ha : EvA C W m t g) (hl : ∀ ds r, F ds = some r → ds.length = n) : Ev C W m (tCallS (spF C.toCb n F) (WE W) t) (callX g F) := fun Γ r hr H0 Ox σ H E Q q => by
  show t σ H fun vs H1 => spF C.toCb n F vs H1 Q (WE W σ)
  unfold callX at hr
  cases h1 : g Γ with
  | none => rw [h1] at hr; cases hr
  | some r1 =>
    rw [h1] at hr
    cases r1 with
    | error x =>
      cases hr
      exact ha Γ _ h1 H0 Ox σ H E _ q
    | ok ds =>
      simp only at hr
      refine ha Γ _ h1 H0 Ox σ H E _ fun vs H1 s1 p1 => ?_
      have E1 := E.step s1
      have mu := E1.ows
      rw [hm_om] at p1
      have tb : ∀ P ∈ C.Ts, TabOk H1 P := fun P hP => by
        obtain ⟨qs, e1, t1⟩ := E1.sm.2 P (E1.tabs P hP)
        exact ⟨qs, (mask_some e1).1, t1⟩
      refine ⟨by rw [← rpl_len p1]; exact hl ds r hr, ds, r, om m (ow C.fl Ox σ Γ) Ox, fun l h => mu.mu l (om_sub mu l h), tb, p1, hr, ?_⟩
      cases r with
      | ok d => exact fun v H' s p => q v H' (s1.trans (.of_sm s mu.mu)) (by rw [hm_om]; exact p)
      | error er =>
        cases er with
        | own c => exact fun H' s => q H' (s1.trans (.of_sm s mu.mu))
        | fld c f d => exact fun H' dd v s n p => q H' (s1.trans (.of_sm s mu.mu)) dd v n p
theorem pp_call (D : Df X.prog X.w X.base C.toCb x j n F) (o : On X C k) (cm : X.calm = true) (hjk : j ≤ k) (tk : Takes X W) (hg : Gl X x) (ha : PAr X C W m (e :: es) t g) (hdb : (x == ("__debug__" : Str)) = false := by decide) (he : starEach (e :: es) X.env = (false, eval e X.env) :: starEach es X.env := by rfl) (hpl : (backTo pos (starEach es X.env)).any (·.1) = false := by rfl) :
    PP X C W m (.Call (.Name x p) (e :: es) [] pos) (tCallS (spF C.toCb n F) (WE W) t) (callX g F) := by
  obtain ⟨f, fd, ps, h1, h2, h3, h4⟩ := D.ex
  refine ⟨?_, ev_sp ha.ev D.ln⟩
  have h3 : Binds C.K fd ps [] := .all h3
  rw [← o.K] at h2 h3 h4
  rw [← o.mg] at h1 h4
  exact pe_callS h4 ((o.rm cm).mono hjk) hg h1 h2 h3 (fun σ => passAt tk σ) ha.pe hdb he hpl

/-! ## raise -/
/-- a class of errors without __init__ -/
structure ExF (K : PySem.W.Frag) (mg : Str → Option Value) (x : Str) : Prop where
  ex : ∃ C : Addr, mg x = some (.ref C) ∧ PySem.W.excIn K C [.type "ValueError", .type "Exception", .type "BaseException", .type "object"] "ValueError.__new__" = true ∧ PySem.W.keepIn K (.ref C) = true ∧ PySem.W.subIn K (.ref C) (.type "BaseException") = some true ∧ PySem.W.typeIn K (.ref C) = some (.type "type")
def raX (f : PX) (x : Str) : SX := fun Γ => match f Γ with
  | some (.ok _) => some (.ex (.own x) Γ)
  | some (.error e) => some (.ex e Γ)
  | none => none
variable {a : Expr} {ta : TE} {fa : PX} {pos2 : Pos}
def tRa (mg : Str → Option Value) (W : WX) (x : Str) (ta : TE) : TS := fun _ σ H => ta σ H fun _ H1 => W (cv mg x) none σ H1
theorem st_raise (o : On X C k) (cm : X.calm = true) (tk : Takes X W) (ex : ExF C.K C.mg x) (hg : Gl X x) (ha : PP X C W .rd a ta fa) (hs : starEach [a] X.env = (false, eval a X.env) :: starEach [] X.env := by rfl) (hdb : (x == ("__debug__" : Str)) = false := by decide) :
    PSt X C W (.Raise (some (.Call (.Name x p) [a] [] pos)) none pos2) (tRa C.mg W x ta) (raX fa x) := by
  obtain ⟨c, h1, h2, h3, h4, h5⟩ := ex.ex
  have ec : cv C.mg x = .ref c := by unfold cv; rw [h1]; rfl
  refine ⟨?_, fun Γ r hr H0 Ox σ H E D q => ?_⟩
  · unfold tRa
    rw [ec]
    rw [← o.K] at h2 h3 h4 h5
    rw [← o.mg] at h1
    exact ps_raise cm tk (SkE.pmk_own1 PySem.F.excBase_ValueError h2 h1 h3 (raises_own h4 h5) hg ha.pe hs hdb)
  · show ta σ H fun _ H1 => W (cv C.mg x) none σ H1
    unfold raX at hr
    split at hr
    · rename_i d h6
      cases hr
      exact ha.ev Γ _ h6 H0 Ox σ H E _ fun v H' s p => q σ H' (E.step s)
    · rename_i er h6
      cases hr
      exact ha.ev Γ _ h6 H0 Ox σ H E _ fun H' s => q σ H' (E.step s)
    · cases hr

/-! ## try -/
def Er.cls : Er → Str
  | .own c => c
  | .fld c _ _ => c
def tryX (i : Nat) (body : SX) (l : List (Str × Bool)) (suite : Er → SX) : SX := fun Γ => match body Γ with
  | some (.ex e Γ') => (match l.lookup e.cls with
    | some true => if i < Γ'.length then (match suite e (Γ'.set i none) with
      | some (.nx Γ2) => some (.nx (Γ2.set i none))
      | some (.bk Γ2) => some (.bk (Γ2.set i none))
      | some (.ct Γ2) => some (.ct (Γ2.set i none))
      | some (.rt d) => some (.rt d)
      | _ => none) else none
    | some false => some (.ex e Γ')
    | none => none)
  | r => r
/-- the class of the error that a suite holds -/
def ErC (mg : Str → Option Value) (e : Er) (cls : Value) (d : Option Addr) : Prop := match e with
  | .own c => cls = cv mg c ∧ d = none
  | .fld c _ _ => cls = cv mg c
abbrev Cf.hold (C : Cf) (i : Nat) (v : V) : Cf := { C with pin := (i, v) :: C.pin }
theorem EnvR.hold {H0 H : Hp} {Ox : List Addr} {σ : L2.St} {Γ : Ga} {i : Nat} {v : V} (E : EnvR C H0 Ox σ Γ H) (h : σ[i]? = some (some v)) : EnvR (C.hold i v) H0 Ox σ Γ H := ⟨E.len, E.tabs, E.sm, E.val, E.own, E.apart, E.ox, fun p hp => by
  rcases List.mem_cons.mp hp with q | q
  · rw [q]; exact h
  · exact E.pn p q⟩
theorem EnvR.unhold {H0 H : Hp} {Ox : List Addr} {σ : L2.St} {Γ : Ga} {i : Nat} {v : V} (E : EnvR (C.hold i v) H0 Ox σ Γ H) : EnvR C H0 Ox σ Γ H := ⟨E.len, E.tabs, E.sm, E.val, E.own, E.apart, E.ox, fun p hp => E.pn p (List.mem_cons_of_mem _ hp)⟩
open Classical in
noncomputable def tsOf (mg : Str → Option Value) (ts : Addr → Value → Option Addr → TS) : Addr → Value → Option Addr → TS := fun a cls d => if h : ∃ er, ErC mg er cls d then ts a cls d else tNever
theorem lookup_mem {α : Type} {c : Str} {b : α} : ∀ {l : List (Str × α)}, l.lookup c = some b → (c, b) ∈ l
  | [], h => by cases h
  | (k, v) :: l, h => by
    rw [List.lookup_cons] at h
    by_cases q : (c == k) = true
    · rw [q] at h
      have e : c = k := by simpa using q
      cases h
      rw [e]
      exact List.mem_cons_self
    · have q' : (c == k) = false := by simpa using q
      rw [q'] at h
      exact List.mem_cons_of_mem _ (lookup_mem h)
theorem st_try_as {i : Nat} {nm : Str} {body suite : List Stmt} {b₀ : Stmt} {np pos' : Pos} {tb : WX → TS} {ts : Addr → Value → Option Addr → TS} {fb : SX} {fs : Er → SX} {l : List (Str × Bool)}
    (o : On X C k) (hst : X.stack = X.env :: X.outer) (hfr : X.env.frame = some X.env.locals) (hi : X.N[i]? = some nm) (hln : X.env.kindOf nm = some .local) (hfl : C.plain i = true) (tk : Takes X W) (ex : ExF C.K C.mg x) (hg : Gl X x) (hdb : (x == ("__debug__" : Str)) = false)
    (hl : ∀ q ∈ l, PySem.W.exmOne C.K (cv C.mg q.1) (cv C.mg x) = some q.2)
    (hb : ∀ (W' : WX) (pn : List (Addr × Obj)) (xe : Value → Shared → Prop), Takes (X.tr pn xe) W' → PassesOwn (model X.prog X.w) X.A X.env xe → PBk (X.tr pn xe) C W' body (tb W') fb)
    (hsu : ∀ (er : Er) (a : Addr) (oe : Obj) (cls : Value) (d : Option Addr) (pn : List (Addr × Obj)), Zc cls d oe → (∃ vs, oe.data = .fields vs) → ErC C.mg er cls d → PBk (X.suite a ((a, oe) :: pn)) (C.hold i (.ref a)) WF (b₀ :: suite) (ts a cls d) (fs er)) :
    PSt X C W (.Try body [.ExceptHandler (some (.Name x np)) (some nm) (b₀ :: suite) pos'] [] [] pos) (fun D σ H => tb (wAs C.K (cv C.mg x) i (tsOf C.mg ts) W D) D σ H) (tryX i fb l fs) := by
  obtain ⟨c, h1, _⟩ := ex.ex
  have ec : cv C.mg x = .ref c := by unfold cv; rw [h1]; rfl
  refine ⟨?_, fun Γ r hr H0 Ox σ H E D q => ?_⟩
  · rw [← o.K]
    refine ps_try_as hst hfr o.nd hi hln ⟨hg, hdb, .inl (by rw [o.mg, ec]; exact h1)⟩ tk (fun W' pn xe t p => (hb W' pn xe t p).pe) fun a oe cls d pn hz hf => ?_
    unfold tsOf
    by_cases h : ∃ er, ErC C.mg er cls d
    · rw [dif_pos h]
      obtain ⟨er, her⟩ := h
      exact (hsu er a oe cls d pn hz hf her).pe
    · rw [dif_neg h]
      exact pss_never
  · unfold tryX at hr
    have hbody : EvS C (wAs C.K (cv C.mg x) i (tsOf C.mg ts) W D) (tb (wAs C.K (cv C.mg x) i (tsOf C.mg ts) W D)) fb := (hb _ [] (fun e s₁ => wpAny (model X.prog X.w) X.A (noteFrame e X.env) (fun _ s₂ => wpAny (model X.prog X.w) X.A (setFlight e none) (fun _ _ => True) (fun _ _ => False) s₂) (fun _ _ => False) s₁) (fun u s' xx => by
      obtain ⟨a, B, sI, pins', σ', H', cls, d, rfl, J', nb, up, sky, na, os, ag, ww⟩ := xx ; rw [show (X.tr _ _).stack = X.env :: X.outer from hst] at sky
      exact Sky.land Zc.steady (show X.A.frames = some (X.env :: X.outer) by rw [← hst]; exact J'.ok.frames) hfr sky fun h3 fl3 up3 => trivial) PassesOwn.looking).ev
    cases h2 : fb Γ with
    | none => rw [h2] at hr; cases hr
    | some oc =>
      refine hbody Γ oc h2 H0 Ox σ H E D ?_
      rw [h2] at hr
      cases oc with
      | nx Γ' => cases hr; exact q
      | bk Γ' => cases hr; exact q
      | ct Γ' => cases hr; exact q
      | rt d => cases hr; exact q
      | re d Γ' => cases hr; exact q
      | ex er Γ' =>
        simp only at hr
        intro σ' H' E'
        have core : ∀ (cls : Value) (d : Option Addr) (H2 : Hp), ErC C.mg er cls d → cls = cv C.mg er.cls → EnvR C H0 Ox σ' Γ' H2 → (∀ r', r' = .ex er Γ' → OcW C W H0 Ox D r' → W cls d σ' H2) → wAs C.K (cv C.mg x) i (tsOf C.mg ts) W D cls d σ' H2 := by
          intro cls d H2 her hcls E2 hW
          split at hr
          · rename_i h3
            refine ⟨true, by rw [hcls]; exact hl _ (lookup_mem h3), fun _ a ha => ?_, fun z => Bool.noConfusion z⟩
            by_cases lt : i < Γ'.length
            · rw [if_pos lt] at hr
              unfold tsOf
              rw [dif_pos ⟨er, her⟩]
              have E3 : EnvR (C.hold i (.ref a)) H0 Ox (σ'.set i (some (.ref a))) (Γ'.set i none) H2 := (E2.unset (pl1 hfl) (pl2 hfl)).hold (List.getElem?_set_self (by rw [E2.len]; exact lt))
              have fin : ∀ {σ4 : L2.St} {Γ4 : Ga} {H4 : Hp}, EnvR (C.hold i (.ref a)) H0 Ox σ4 Γ4 H4 → EnvR C H0 Ox (σ4.set i none) (Γ4.set i none) H4 := fun E4 => E4.unhold.unset (pl1 hfl) (pl2 hfl)
              have evs := fun oe hz hf => (hsu er a oe cls d [] hz hf her).ev
              have ev1 : EvS (C.hold i (.ref a)) WF (ts a cls d) (fs er) := evs { cls := cls, dict := d, data := .fields #[] } ⟨rfl, rfl⟩ ⟨_, rfl⟩
              cases h5 : fs er (Γ'.set i none) with
              | none => rw [h5] at hr; cases hr
              | some oc2 =>
                refine ev1 _ oc2 h5 H0 Ox _ H2 E3 _ ?_
                rw [h5] at hr
                cases oc2 with
                | nx Γ4 => cases hr; exact fun σ4 H4 E4 => q _ _ (fin E4)
                | bk Γ4 => cases hr; exact fun σ4 H4 E4 => q _ _ (fin E4)
                | ct Γ4 => cases hr; exact fun σ4 H4 E4 => q _ _ (fin E4)
                | rt dd => cases hr; exact q
                | ex e2 Γ4 => cases hr
                | re dd Γ4 => cases hr
            · rw [if_neg lt] at hr; cases hr
          · rename_i h3
            cases hr
            exact ⟨false, by rw [hcls]; exact hl _ (lookup_mem h3), fun z => Bool.noConfusion z, fun _ => hW _ rfl q⟩
          · cases hr
        cases er with
        | own c => exact core (cv C.mg c) none H' ⟨rfl, rfl⟩ rfl E' fun r' e qq => by subst e; exact qq σ' H' E'
        | fld c f d => exact fun dd v hn p => core (cv C.mg c) (some dd) (upd H' dd (.xd [(f, v)])) rfl rfl (E'.step (.new E'.mut hn)) fun r' e qq => by subst e; exact qq σ' H' E' dd v hn p
end
end Z

set_option Elab.async false
set_option linter.all false
set_option maxRecDepth 100000
set_option maxHeartbeats 4000000
namespace Z
open PySem PySem.Spec PyProof.Rows L2

/-! ## isinstance of a caught error -/
def cvV (mg : Str → Option Value) (y : Str) : V := match cv mg y with
  | .ref a => .ref a
  | _ => .non
def isX (l : List (Str × Bool)) (er : Er) : PX := fun _ => match er with
  | .own c => (l.lookup c).map fun b => .ok (.bool b)
  | _ => none
section
variable {X : Cx} {C : Cf} {W : WX} {m : Md} {k : Nat} {x y : Str} {p p1 p2 pos : Pos}
def rIsC (K : PySem.W.Frag) (a : Addr) (cls : Value) (d : Option Addr) : List V → Hp → VK → Prop := fun xs H Q => ∃ D, cls = .ref D ∧ d = none ∧ ExcC K D ∧ rIsE K D a xs H Q
theorem call_isC {a : Addr} {oe : Obj} {cls : Value} {d : Option Addr} {pn : List (Addr × Obj)} (hz : Zc cls d oe) (hf : ∃ vs, oe.data = .fields vs) : CallR (X.suite a ((a, oe) :: pn)) (.builtin "isinstance") (rIsC X.K a cls d) := by
  intro pins s σ H xs us Q I r h
  obtain ⟨D, rfl, rfl, hC, h⟩ := h
  exact call_isE hC hz hf pins s σ H xs us Q I r h
theorem boot_isinst : bootBuiltins "isinstance" = some (.builtin "isinstance") := by decide +kernel
/-- the classes of l are classes of errors; what isinstance says of each -/
structure IsF (K : PySem.W.Frag) (mg : Str → Option Value) (y : Str) (l : List (Str × Bool)) : Prop where
  gl : ∃ c : Addr, mg y = some (.ref c)
  ex : ∀ q ∈ l, ∃ D, cv mg q.1 = .ref D ∧ ExcC K D
  is : ∀ q ∈ l, PySem.W.kitOne K (cv mg q.1) (cv mg y) = some q.2
theorem pp_isE {i : Nat} {a : Addr} {oe : Obj} {cls : Value} {d : Option Addr} {pn : List (Addr × Obj)} {er : Er} {l : List (Str × Bool)} (hz : Zc cls d oe) (hf : ∃ vs, oe.data = .fields vs) (her : ErC C.mg er cls d)
    (o : On X C k) (F : IsF C.K C.mg y l) (hp : (i, V.ref a) ∈ C.pin) (hgi : Gl X "isinstance") (hmi : X.mg "isinstance" = none) (hN : X.N[i]? = some x) (hv : Vis X.env.scope x) (hdx : (x == ("__debug__" : Str)) = false) (hcd : (x == ("__classdict__" : Str)) = false) (hgy : Gl X y) (hdy : (y == ("__debug__" : Str)) = false)
    (hs1 : starEach [Expr.Name x p1, Expr.Name y p2] X.env = (false, eval (.Name x p1) X.env) :: starEach [Expr.Name y p2] X.env := by rfl) (hs2 : starEach [Expr.Name y p2] X.env = (false, eval (.Name y p2) X.env) :: starEach [] X.env := by rfl) (hpl : (backTo pos (starEach [Expr.Name y p2] X.env)).any (·.1) = false := by rfl) :
    PP (X.suite a ((a, oe) :: pn)) C W m (.Call (.Name "isinstance" p) [.Name x p1, .Name y p2] [] pos) (tCB (rIsC C.K a cls d) (tCons (tVar i) (tCons (tC (cvV C.mg y)) tNil))) (isX l er) := by
  obtain ⟨c, hc⟩ := F.gl
  have ec : cv C.mg y = .ref c := by unfold cv; rw [hc]; rfl
  have ev : cvV C.mg y = .ref c := by unfold cvV; rw [ec]
  refine ⟨?_, fun Γ r hr H0 Ox σ H E Q q => ?_⟩
  · rw [ev, ← o.K]
    refine pe_callB (X := X.suite a ((a, oe) :: pn)) (call_isC hz hf) hgi hmi boot_isinst (pa_cons (pe_var (X := X.suite a ((a, oe) :: pn)) hN hv hdx hcd) (pa_cons (pe_glob (X := X.suite a ((a, oe) :: pn)) hgy (show X.mg y = _ by rw [o.mg]; exact hc) rfl hdy) pa_nil hs2) hs1) (by decide) (by decide) hs1 hpl
  · show ∃ v, σ[i]? = some (some v) ∧ rIsC C.K a cls d [v, cvV C.mg y] H Q
    refine ⟨.ref a, E.pn _ hp, ?_⟩
    unfold isX at hr
    cases er with
    | fld _ _ _ => cases hr
    | own c2 =>
      obtain ⟨e1, e2⟩ := her
      simp only at hr
      cases h3 : l.lookup c2 with
      | none => rw [h3] at hr; cases hr
      | some b =>
        rw [h3] at hr
        cases hr
        have hm := lookup_mem h3
        obtain ⟨D, h4, h5⟩ := F.ex _ hm
        have h6 := F.is _ hm
        rw [h4] at h6
        refine ⟨D, by rw [e1]; exact h4, e2, h5, cvV C.mg y, cv C.mg y, b, rfl, fun u ru => ?_, h6, q _ H (.refl _ _) mk_bool⟩
        rw [ev] at ru
        rw [ec]
        exact ru

/-! ## a def -/
def defX (n N : Nat) (fb : SX) : FX := fun ds => if ds.length = n then (match fb (ds.map some ++ List.replicate (N - n) none) with
  | some (.nx _) => some (.ok .none)
  | some (.rt d) => some (.ok d)
  | some (.ex e _) => some (.error e)
  | _ => none) else none
abbrev CfD (C : Cb) (fl : List Nat) : Cf := { C with fl := fl }
/-- what a def may let out -/
abbrev WD (E : XK) : WX := fun cls d _ H => E cls d H
theorem env_start {C : Cb} {fl : List Nat} {H : Hp} {O : List Addr} {ds : List PyData} {vs : List V} {N : List Str} (mu : MutAll O H) (tb : ∀ P ∈ C.Ts, TabOk H P) (p : RpL C.K (mask O H) ds vs) (hfl : ∀ i ∈ fl, ds.length ≤ i) :
    EnvR (CfD C fl) H O (L2.start N vs) (ds.map some ++ List.replicate (N.length - ds.length) none) H := by
  have hl := rpl_len p
  have no : ∀ i d, ds.length ≤ i → (ds.map some ++ List.replicate (N.length - ds.length) (none : Option PyData))[i]? ≠ some (some d) := fun i d h e => by
    rw [List.getElem?_append_right (by rw [List.length_map]; exact h)] at e
    have := List.mem_of_getElem? e
    have := List.eq_of_mem_replicate this
    cases this
  have e0 : ∀ O' : List Addr, ow fl O' (L2.start N vs) (ds.map some ++ List.replicate (N.length - ds.length) none) = O' := fun O' => by
    have : ∀ l : List Nat, (∀ i ∈ l, ds.length ≤ i) → l.filterMap (ow1 (L2.start N vs) (ds.map some ++ List.replicate (N.length - ds.length) none)) = [] := by
      intro l
      induction l with
      | nil => intro _; rfl
      | cons i l ih =>
        intro h
        have : ow1 (L2.start N vs) (ds.map some ++ List.replicate (N.length - ds.length) none) i = none := by
          cases q : ow1 (L2.start N vs) (ds.map some ++ List.replicate (N.length - ds.length) none) i with
          | none => rfl
          | some a =>
            obtain ⟨⟨d, h1⟩, _⟩ := ow_some q
            exact absurd h1 (no i d (h i List.mem_cons_self))
        rw [List.filterMap_cons, this, ih fun j hj => h j (List.mem_cons_of_mem _ hj)]
    unfold ow
    rw [this fl hfl, List.nil_append]
  refine ⟨?_, tb, ?_, fun i d h1 h2 => ?_, fun i d h1 h2 => ?_, fun i j l h1 h2 h3 h4 => ?_, mu, fun p hp => by cases hp⟩
  · unfold L2.start
    rw [List.length_append, List.length_append, List.length_map, List.length_map, List.length_replicate, List.length_replicate, hl]
  · show Sm H (mask (ow fl [] _ _) H)
    rw [e0, mask_nil]
    exact .refl _
  · show ∃ v, _ ∧ Rp C.K (mask (ow fl O _ _) H) d v
    rw [e0]
    by_cases lt : i < ds.length
    · rw [List.getElem?_append_left (by rw [List.length_map]; exact lt), List.getElem?_map] at h1
      cases h3 : ds[i]? with
      | none => rw [h3] at h1; cases h1
      | some d' =>
        rw [h3] at h1
        cases h1
        obtain ⟨v, h4, h5⟩ := rpl_get p h3
        refine ⟨v, ?_, h5⟩
        unfold L2.start
        rw [List.getElem?_append_left (by rw [List.length_map, ← hl]; exact lt), List.getElem?_map, h4]
        rfl
    · exact absurd h1 (no i d (by omega))
  · exact absurd h1 (no i d (hfl i h2))
  · obtain ⟨⟨d, h5⟩, _⟩ := ow_some h3
    exact absurd h5 (no i d (hfl i h1))
theorem fn_z {P : Program} {w : World} {base : Heap} {C : Cb} {x qual : Str} {f : Addr} {params : Arguments} {body : List Stmt} {scope : Scope} {dV kV doc pm cdv ct oc : Value} {an od : Option Addr} {osl : Array (Option Value)} {N ps : List Str} {fl : List Nat} {fb : SX} {k : Nat}
    (hmg : C.mg x = some (.ref f)) (lk : C.K.lookup f = some ⟨oc, od, .func (PySem.W.fnOf x qual params body scope dV kV doc pm an cdv ct), osl⟩) (hcd : PySem.W.codeIn C.K cdv qual = true) (hk : PySem.W.keepIn C.K (.ref f) = true)
    (S : FnScope N ps scope) (hb : ∀ us : List Value, us.length = ps.length → bindArgs (PySem.W.fnOf x qual params body scope dV kV doc pm an cdv ct) ⟨us, []⟩ = pure (ps.zip us)) (hfl : (fl.all fun i => decide (ps.length ≤ i)) = true)
    (hbody : ∀ (A : Around) (outer : List Env) (s : Shared) (H : Hp) (E : XK), Room k (A.deeper (envOfC qual scope s.heap.objs.size f cdv)) → ∃ t, PBk (cxOf (L2.CX P w) P w C.K C.mg base N qual scope f cdv A outer s H E) (CfD C fl) (WD E) body t fb) :
    FnOk P w C.K C.mg base (L2.CX P w) (k + 1) f (PySem.W.fnOf x qual params body scope dV kV doc pm an cdv ct) ps (spF C ps.length (defX ps.length N.length fb)) := by
  have ln : ∀ ds r, defX ps.length N.length fb ds = some r → ds.length = ps.length := fun ds r h => by
    unfold defX at h
    by_cases e : ds.length = ps.length
    · exact e
    · rw [if_neg e] at h; cases h
  refine fn_of lk hcd S (fun vs H Q E h => h.1) fun A outer s H vs Q E hr hsp => ?_
  obtain ⟨t, h⟩ := hbody A outer s H E hr
  refine ⟨t, h.pe, ?_⟩
  obtain ⟨_, ds, r, O, mu, tb, p, hF, hr⟩ := hsp
  have hn := ln ds r hF
  unfold defX at hF
  rw [if_pos hn] at hF
  have fl' : ∀ i ∈ fl, ds.length ≤ i := fun i hi => by
    have := List.all_eq_true.mp hfl i hi
    rw [hn]
    exact of_decide_eq_true this
  have E0 := env_start (N := N) (fl := fl) mu tb p fl'
  rw [hn] at E0
  cases h1 : fb (ds.map some ++ List.replicate (N.length - ps.length) none) with
  | none => rw [h1] at hF; cases hF
  | some ocm =>
    rw [h1] at hF
    refine h.ev _ ocm h1 H O _ H E0 _ ?_
    cases ocm with
    | nx Γ => cases hF; exact fun σ H' E' => hr _ H' (E'.sm.trans (mask_le _ _)) mk_none
    | bk Γ => cases hF
    | ct Γ => cases hF
    | rt d => cases hF; exact fun v H' s pp => hr v H' s pp
    | re d Γ => cases hF
    | ex e Γ =>
      cases hF
      intro σ H' E'
      cases e with
      | own c => exact hr H' (E'.sm.trans (mask_le _ _))
      | fld c f d => exact fun dd v hn p => hr H' dd v (E'.sm.trans (mask_le _ _)) hn p
end
theorem df_of {P : Program} {w : World} {base : Heap} {C : Cb} {x qual : Str} {f : Addr} {params : Arguments} {body : List Stmt} {scope : Scope} {dV kV doc pm cdv ct oc : Value} {an od : Option Addr} {osl : Array (Option Value)} {N ps : List Str} {fl : List Nat} {fb : SX} {k : Nat}
    (hmg : C.mg x = some (.ref f)) (lk : C.K.lookup f = some ⟨oc, od, .func (PySem.W.fnOf x qual params body scope dV kV doc pm an cdv ct), osl⟩) (hcd : PySem.W.codeIn C.K cdv qual = true) (hk : PySem.W.keepIn C.K (.ref f) = true)
    (S : FnScope N ps scope) (hb : ∀ us : List Value, us.length = ps.length → bindArgs (PySem.W.fnOf x qual params body scope dV kV doc pm an cdv ct) ⟨us, []⟩ = pure (ps.zip us)) (hfl : (fl.all fun i => decide (ps.length ≤ i)) = true)
    (hbody : ∀ (A : Around) (outer : List Env) (s : Shared) (H : Hp) (E : XK), Room k (A.deeper (envOfC qual scope s.heap.objs.size f cdv)) → ∃ t, PBk (cxOf (L2.CX P w) P w C.K C.mg base N qual scope f cdv A outer s H E) (CfD C fl) (WD E) body t fb) :
    Df P w base C x (k + 1) ps.length (defX ps.length N.length fb) :=
  ⟨⟨f, _, ps, hmg, hk, hb, fn_z hmg lk hcd hk S hb hfl hbody⟩, fun ds r h => by
    unfold defX at h
    by_cases e : ds.length = ps.length
    · exact e
    · rw [if_neg e] at h; cases h⟩
end Z

set_option Elab.async false
set_option linter.all false
set_option maxRecDepth 100000
set_option maxHeartbeats 4000000
namespace Z
open PySem PySem.Spec PyProof.Rows L2

/-! ## tests, constants of a module, walks of any kind -/
section
variable {X : Cx} {C : Cf} {W : WX} {m : Md} {k : Nat} {e a b c tg : Expr} {te ta tb tc : TE} {f fa fb fc : PX} {pos p p' pos' : Pos}
theorem ptt_of (ha : PP X C W .rd e te f) (ht : PT X e (tTest te)) : PTt X C W e (tTest te) (toT f) := by
  refine ⟨ht, fun Γ r hr H0 Ox σ H E Q q => ?_⟩
  unfold toT at hr
  split at hr
  · rename_i b h1
    cases hr
    exact ha.ev Γ _ h1 H0 Ox σ H E _ fun v H' s p => ⟨b, rp_bool p, q H' s⟩
  · rename_i e h1
    cases hr
    exact ha.ev Γ _ h1 H0 Ox σ H E _ q
  · cases hr
theorem pt_eq (o : On X C k) (ha : PP X C W .rd a ta fa) (hb : PP X C W .rd b tb fb) : PTt X C W (.Compare a [.Eq] [b] pos) (tTest (tOp (rEqX C.K) ta tb)) (toT (b2 fa fb gEq)) := ptt_of (pp_eq o ha hb) (pt_cmpR (by rw [← o.K]; exact op_eqX o.un) ha.pe hb.pe (nomark _))
theorem pt_ne (o : On X C k) (ha : PP X C W .rd a ta fa) (hb : PP X C W .rd b tb fb) : PTt X C W (.Compare a [.NotEq] [b] pos) (tTest (tOp (rNeX C.K) ta tb)) (toT (b2 fa fb gNe)) := ptt_of (pp_ne o ha hb) (pt_cmpR (by rw [← o.K]; exact op_neX o.un) ha.pe hb.pe (nomark _))
theorem pt_lt (o : On X C k) (ha : PP X C W .rd a ta fa) (hb : PP X C W .rd b tb fb) : PTt X C W (.Compare a [.Lt] [b] pos) (tTest (tOp rLtI ta tb)) (toT (b2 fa fb gLtI)) := ptt_of (pp_lt o ha hb) (pt_cmpR op_lt ha.pe hb.pe (nomark _))
theorem pt_le (o : On X C k) (ha : PP X C W .rd a ta fa) (hb : PP X C W .rd b tb fb) : PTt X C W (.Compare a [.LtE] [b] pos) (tTest (tOp rLeI ta tb)) (toT (b2 fa fb gLeI)) := ptt_of (pp_le o ha hb) (pt_cmpR op_le ha.pe hb.pe (nomark _))
theorem pt_gt (o : On X C k) (ha : PP X C W .rd a ta fa) (hb : PP X C W .rd b tb fb) : PTt X C W (.Compare a [.Gt] [b] pos) (tTest (tOp rGtI ta tb)) (toT (b2 fa fb gGtI)) := ptt_of (pp_gt o ha hb) (pt_cmpR op_gt ha.pe hb.pe (nomark _))
theorem pt_ge (o : On X C k) (ha : PP X C W .rd a ta fa) (hb : PP X C W .rd b tb fb) : PTt X C W (.Compare a [.GtE] [b] pos) (tTest (tOp rGeI ta tb)) (toT (b2 fa fb gGeI)) := ptt_of (pp_ge o ha hb) (pt_cmpR op_ge ha.pe hb.pe (nomark _))
theorem pt_is (o : On X C k) (ha : PP X C W .rd a ta fa) (hb : PP X C W .rd b tb fb) : PTt X C W (.Compare a [.Is] [b] pos) (tTest (tOp rIsX ta tb)) (toT (b2 fa fb gIs)) := ptt_of (pp_is o ha hb) (pt_cmpR (op_is_bl.or op_isN) ha.pe hb.pe (nomark _))
theorem pt_isnot (o : On X C k) (ha : PP X C W .rd a ta fa) (hb : PP X C W .rd b tb fb) : PTt X C W (.Compare a [.IsNot] [b] pos) (tTest (tOp rNotX ta tb)) (toT (b2 fa fb gIsNot)) := ptt_of (pp_isnot o ha hb) (pt_cmpR (op_isnot_bl.or op_notN) ha.pe hb.pe (nomark _))
theorem pt_inS (o : On X C k) (ha : PP X C W .rd a ta fa) (hb : PP X C W .rd b tb fb) (hm : behindInMarks .In b = false := by rfl) : PTt X C W (.Compare a [.In] [b] pos) (tTest (tOp rInS ta tb)) (toT (b2 fa fb gInS)) := ptt_of (pp_inS o ha hb hm) (pt_cmpR op_inS ha.pe hb.pe hm)
theorem pt_inRg1 (o : On X C k) (hgr : Gl X "range") (hmr : X.mg "range" = none) (ha : PP X C W .rd a ta fa) (hb : PP X C W .rd b tb fb) (hs : starEach [b] X.env = (false, eval b X.env) :: starEach [] X.env := by rfl) (hm : behindInMarks .In (Expr.Call (.Name "range" p') [b] [] pos') = false := by rfl) :
    PTt X C W (.Compare a [.In] [.Call (.Name "range" p') [b] [] pos'] pos) (tTest (tOp rInRg ta (tCB rRng (tCons tb tNil)))) (toT (b2 fa fb gInRg)) := ptt_of (pp_inRg1 o hgr hmr ha hb hs hm) (pt_cmpR op_in_rng ha.pe (pe_callTy cr_range1 hgr hmr boot_range (pa_cons hb.pe pa_nil hs) (by decide) (by decide) hs rfl) hm)
theorem pt_lele (o : On X C k) (ha : PP X C W .rd a ta fa) (hb : PP X C W .rd b tb fb) (hc : PP X C W .rd c tc fc) (hm : lastMarks [CmpOp.LtE, CmpOp.LtE] [b, c] = false := by rfl) : PTt X C W (.Compare a [.LtE, .LtE] [b, c] pos) (tTest (tChain rLeI rLeI ta tb tc)) (toT (chainX fa fb fc gLeI gLeI)) := ptt_of (pp_lele o ha hb hc hm) (pt_chain op_le op_le ha.pe hb.pe hc.pe hm)
theorem pt_lelt (o : On X C k) (ha : PP X C W .rd a ta fa) (hb : PP X C W .rd b tb fb) (hc : PP X C W .rd c tc fc) (hm : lastMarks [CmpOp.LtE, CmpOp.Lt] [b, c] = false := by rfl) : PTt X C W (.Compare a [.LtE, .Lt] [b, c] pos) (tTest (tChain rLeI rLtI ta tb tc)) (toT (chainX fa fb fc gLeI gLtI)) := ptt_of (pp_lelt o ha hb hc hm) (pt_chain op_le op_lt ha.pe hb.pe hc.pe hm)
/-- a module's constants -/
theorem pp_gint {x : Str} {i : Int} (o : On X C k) (h : ∃ t, C.mg x = some (.int i t)) (hg : Gl X x := by rfl) (hd : (x == ("__debug__" : Str)) = false := by decide) : PP X C W m (.Name x pos) (tC (.int i)) (fC (.int i)) := by
  obtain ⟨t, h⟩ := h
  exact pp_glob (by rw [o.mg]; exact h) ⟨t, rfl⟩ (fun _ => mk_int) hg hd
theorem pp_gstr {x z : Str} (o : On X C k) (h : ∃ t, C.mg x = some (.str z t)) (hg : Gl X x := by rfl) (hd : (x == ("__debug__" : Str)) = false := by decide) : PP X C W m (.Name x pos) (tC (.str z)) (fC (.str z)) := by
  obtain ⟨t, h⟩ := h
  exact pp_glob (by rw [o.mg]; exact h) ⟨t, rfl⟩ (fun _ => mk_str) hg hd
/-- anything walked: a list, a tuple, a text -/
def iAny (K : PySem.W.Frag) (tl : TE) : TI := fun σ H R => tl σ H fun x H1 => (∃ a, x = .ref a ∧ (∃ xs, SqL K H1 a xs) ∧ R (Itl K a) H1) ∨ (∃ a, x = .ref a ∧ (∃ xs, SqT K H1 a xs) ∧ R (Itt K a) H1) ∨ ∃ z, x = .str z ∧ R (Its z) H1
theorem pi_any' {tl : TE} (hl : PE X e tl) : PI X tg e (iAny X.K tl) := by
  refine ⟨fun pins s σ H R I h => thn (hl.run pins s σ H _ I h) fun v s1 ⟨x, H1, I1, r1, q1⟩ => ?_⟩
  rcases q1 with ⟨a, rfl, ⟨xs, hq⟩, q⟩ | ⟨a, rfl, ⟨xs, hq⟩, q⟩ | ⟨z, rfl, q⟩
  · cases r1 ; obtain ⟨its, rv, p, hz⟩ := I1.list hq
    exact wpAny_pyIter_list p.isList (pi_one (tk := s1.toks) I1 _ (turn_list a _) ⟨_, Heap.get?_push_size _ rfl, rfl, rfl⟩ q)
  · cases r1 ; obtain ⟨its, rv, p, hz⟩ := I1.tuple hq
    exact wpAny_pyIter_tuple (show s1.heap.IsTuple a its.toArray from p) (pi_one (tk := s1.toks) I1 _ (turn_tuple a _) ⟨_, Heap.get?_push_size _ rfl, rfl, rfl⟩ q)
  · obtain ⟨t, rfl⟩ := r1 ; cases ha : z.cps.all (· < 128)
    · exact wpAny_pyIter_wide ha (pi_one (tk := s1.toks) I1 _ (turn_str _ z t "str_iterator" (.inr rfl)) ⟨_, Heap.get?_push_size _ rfl, rfl, rfl⟩ q)
    · exact wpAny_pyIter_ascii ha (pi_one (tk := s1.toks) I1 _ (turn_str _ z t "str_ascii_iterator" (.inl rfl)) ⟨_, Heap.get?_push_size _ rfl, rfl, rfl⟩ q)
def itD : PyData → Option (List PyData)
  | .list ds => some ds
  | .tuple ds => some ds
  | .str z => some (signs z)
  | _ => none
def iA (f : PX) : PIx := fun Γ => match f Γ with
  | some (.ok d) => (itD d).map .ok
  | some (.error e) => some (.error e)
  | none => none
theorem pi_any (o : On X C k) (h : PP X C W .st e te f) : PIt X C W tg e (iAny C.K te) (iA f) := ⟨by rw [← o.K]; exact pi_any' h.pe, fun Γ r hr H0 Ox σ H E R q => by
  show te σ H fun x H1 => (∃ a, x = .ref a ∧ (∃ xs, SqL C.K H1 a xs) ∧ R (Itl C.K a) H1) ∨ (∃ a, x = .ref a ∧ (∃ xs, SqT C.K H1 a xs) ∧ R (Itt C.K a) H1) ∨ ∃ z, x = .str z ∧ R (Its z) H1
  unfold iA at hr
  split at hr
  · rename_i d h1
    cases h2 : itD d with
    | none => rw [h2] at hr; cases hr
    | some ds =>
      rw [h2] at hr
      cases hr
      refine h.ev Γ _ h1 H0 Ox σ H E _ fun v H' s p => ?_
      unfold itD at h2
      split at h2
      · cases h2
        obtain ⟨a, xs, rfl, h3, h4⟩ := rp_lst p
        exact .inl ⟨a, rfl, ⟨xs, sqL_sm (mask_le _ _) h3⟩, q _ H' s (wlk_list h3 h4)⟩
      · cases h2
        obtain ⟨a, xs, rfl, h3, h4⟩ := rp_tup p
        exact .inr (.inl ⟨a, rfl, ⟨xs, sqT_sm (mask_le _ _) h3⟩, q _ H' s (wlk_tup h3 h4)⟩)
      · cases h2
        exact .inr (.inr ⟨_, rp_str p, q _ H' s wlk_str⟩)
      · cases h2
  · rename_i x h1
    cases hr
    exact h.ev Γ _ h1 H0 Ox σ H E _ q
  · cases hr⟩
end
end Z

set_option Elab.async false
set_option linter.all false
set_option maxRecDepth 100000
set_option maxHeartbeats 4000000
namespace Z
open PySem PySem.Spec PyProof.Rows L2

/-! ## several except clauses, without names -/
theorem On.suite0 {X : Cx} {C : Cf} {k : Nat} (o : On X C k) {a : Addr} {pn : List (Addr × Obj)} : On (X.suite a pn) C k := ⟨o.K, o.mg, o.un, fun c => Bool.noConfusion c, o.nd⟩
/-- the clause that takes an error: none of them, one, it is not known -/
def pickH : List (List (Str × Bool) × SX) → Er → Option (Option SX)
  | [], _ => some none
  | (l, s) :: r, e => match l.lookup e.cls with
    | some true => some (some s)
    | some false => pickH r e
    | none => none
def tryM (body : SX) (hs : List (List (Str × Bool) × SX)) : SX := fun Γ => match body Γ with
  | some (.ex e Γ') => (match pickH hs e with
    | some (some su) => (match su Γ' with
      | some (.ex _ _) => none
      | r => r)
    | some none => some (.ex e Γ')
    | none => none)
  | r => r
inductive HdZ (X : Cx) (C : Cf) : List ExceptHandler → List (Value × (Addr → Value → Option Addr → TS)) → List (List (Str × Bool) × SX) → Prop
  | nil : HdZ X C [] [] []
  | cons {x : Str} {t : TS} {fs : SX} {b₀ : Stmt} {suite : List Stmt} {np pos' : Pos} {hds : List ExceptHandler} {l : List (Value × (Addr → Value → Option Addr → TS))} {lb : List (Str × Bool)} {r : List (List (Str × Bool) × SX)}
      (ex : ExF C.K C.mg x) (hg : Gl X x) (hdb : (x == ("__debug__" : Str)) = false) (hl : ∀ q ∈ lb, PySem.W.exmOne C.K (cv C.mg q.1) (cv C.mg x) = some q.2)
      (hsu : ∀ (a : Addr) (oe : Obj) (cls : Value) (d : Option Addr) (pn : List (Addr × Obj)), Zc cls d oe → (∃ vs, oe.data = .fields vs) → PBk (X.suite a ((a, oe) :: pn)) C WF (b₀ :: suite) t fs) (rest : HdZ X C hds l r) :
      HdZ X C (.ExceptHandler (some (.Name x np)) none (b₀ :: suite) pos' :: hds) ((cv C.mg x, fun _ _ _ => t) :: l) ((lb, fs) :: r)
section
variable {X : Cx} {C : Cf} {W : WX} {k : Nat} {hds : List ExceptHandler} {l : List (Value × (Addr → Value → Option Addr → TS))} {r : List (List (Str × Bool) × SX)}
theorem HdZ.ok (h : HdZ X C hds l r) (hmg : X.mg = C.mg) : HdsOk X hds l := by
  induction h with
  | nil => exact .nil
  | @cons x t fs b₀ suite np pos' hds l lb r ex hg hdb hl hsu rest ih =>
    obtain ⟨c, h1, _⟩ := ex.ex
    have ec : cv C.mg x = .ref c := by unfold cv; rw [h1]; rfl
    exact .cons ⟨hg, hdb, .inl (by rw [hmg, ec]; exact h1)⟩ (fun a oe cls d pn hz hf => (hsu a oe cls d pn hz hf).pe) ih
theorem HdZ.many (h : HdZ X C hds l r) {e : Er} {Γ : Ga} {D : Ends} {H0 : Hp} {Ox : List Addr} {rr : Oc} (hr : (match pickH r e with
    | some (some su) => (match su Γ with
      | some (.ex _ _) => none
      | r => r)
    | some none => some (.ex e Γ)
    | none => none) = some rr) (q : OcW C W H0 Ox D rr) {cls : Value} {d : Option Addr} {σ : L2.St} {H : Hp} (hcls : cls = cv C.mg e.cls) (E : EnvR C H0 Ox σ Γ H) (hW : rr = .ex e Γ → W cls d σ H) : wMany C.K W D l cls d σ H := by
  induction h with
  | nil =>
    unfold pickH at hr
    cases hr
    exact hW rfl
  | @cons x t fs b₀ suite np pos' hds l lb r ex hg hdb hl hsu rest ih =>
    unfold pickH at hr
    cases h2 : lb.lookup e.cls with
    | none => rw [h2] at hr; cases hr
    | some b =>
      rw [h2] at hr
      cases b with
      | false => exact ⟨false, by rw [hcls]; exact hl _ (lookup_mem h2), fun z => Bool.noConfusion z, fun _ => ih hr⟩
      | true =>
        refine ⟨true, by rw [hcls]; exact hl _ (lookup_mem h2), fun _ a ha => ?_, fun z => Bool.noConfusion z⟩
        have ev := (hsu a { cls := cls, dict := d, data := .fields #[] } cls d [] ⟨rfl, rfl⟩ ⟨_, rfl⟩).ev
        simp only at hr
        cases h5 : fs Γ with
        | none => rw [h5] at hr; cases hr
        | some oc2 =>
          rw [h5] at hr
          refine ev Γ oc2 h5 H0 Ox σ H E D ?_
          cases oc2 with
          | nx Γ4 => cases hr; exact q
          | bk Γ4 => cases hr; exact q
          | ct Γ4 => cases hr; exact q
          | rt dd => cases hr; exact q
          | ex e2 Γ4 => cases hr
          | re dd Γ4 => cases hr; exact q
theorem st_try_many {body : List Stmt} {h₀ : ExceptHandler} {pos : Pos} {tb : WX → TS} {fb : SX} (o : On X C k) (hst : X.stack = X.env :: X.outer) (hfr : X.env.frame = some X.env.locals) (tk : Takes X W)
    (hb : ∀ (W' : WX) (pn : List (Addr × Obj)) (xe : Value → Shared → Prop), Takes (X.tr pn xe) W' → PassesOwn (model X.prog X.w) X.A X.env xe → PBk (X.tr pn xe) C W' body (tb W') fb)
    (hh : HdZ X C (h₀ :: hds) l r) : PSt X C W (.Try body (h₀ :: hds) [] [] pos) (fun D σ H => tb (wMany C.K W D l) D σ H) (tryM fb r) := by
  refine ⟨by rw [← o.K]; exact ps_try_many hst hfr tk (fun W' pn xe t p => (hb W' pn xe t p).pe) (hh.ok o.mg), fun Γ rr hr H0 Ox σ H E D q => ?_⟩
  unfold tryM at hr
  have hbody : EvS C (wMany C.K W D l) (tb (wMany C.K W D l)) fb := (hb _ [] (fun e s₁ => wpAny (model X.prog X.w) X.A (noteFrame e X.env) (fun _ s₂ => wpAny (model X.prog X.w) X.A (setFlight e none) (fun _ _ => True) (fun _ _ => False) s₂) (fun _ _ => False) s₁) (fun u s' xx => by
    obtain ⟨a, B, sI, pins', σ', H', cls, d, rfl, J', nb, up, sky, na, os, ag, ww⟩ := xx ; rw [show (X.tr _ _).stack = X.env :: X.outer from hst] at sky
    exact Sky.land Zc.steady (show X.A.frames = some (X.env :: X.outer) by rw [← hst]; exact J'.ok.frames) hfr sky fun h3 fl3 up3 => trivial) PassesOwn.looking).ev
  cases h2 : fb Γ with
  | none => rw [h2] at hr; cases hr
  | some oc =>
    refine hbody Γ oc h2 H0 Ox σ H E D ?_
    rw [h2] at hr
    cases oc with
    | nx Γ' => cases hr; exact q
    | bk Γ' => cases hr; exact q
    | ct Γ' => cases hr; exact q
    | rt d => cases hr; exact q
    | re d Γ' => cases hr; exact q
    | ex er Γ' =>
      intro σ' H' E'
      cases er with
      | own c => exact hh.many hr q rfl E' fun e => by subst e; exact q σ' H' E'
      | fld c f d => exact fun dd v hn p => hh.many hr q rfl (E'.step (.new E'.mut hn)) fun e => by subst e; exact q σ' H' E' dd v hn p
end

/-! ## x not in range(n) -/
theorem op_nin_rng {X : Cx} : OpR X (compareOp .NotIn) (fun x y H Q => ∃ i a lo hi, x = V.int i ∧ y = V.ref a ∧ H a = some (.rng lo hi) ∧ Q (.bl (!decide (lo ≤ i ∧ i < hi))) H) := by
  intro pins s σ H x y v u Q I rx ry h
  obtain ⟨i, a, lo, hi, rfl, rfl, ha, q⟩ := h
  obtain ⟨k, rfl⟩ := rx ; obtain rfl : u = Value.ref a := ry ; obtain ⟨t1, t2, t3, ho⟩ := I.hok a _ ha
  show wpAny _ _ (do return Value.bool (!(← contains (Value.ref a) (Value.int i k)))) _ _ s
  refine wpAny_bind (wpAny_contains_slot (T := "range") ⟨_, ho, rfl⟩ PySem.F.slot_range_contains (call_meets PySem.F.slot_range_contains ⟨_, ho, rfl⟩ PySem.F.entry_range_contains (PySem.F.args_range_contains_2 _ _) (q_contains a lo hi i t1 t2 t3 k) ⟨ho, wpAny_truthy_bool (wpAny_pure ⟨.bl _, H, I, rfl, ?_⟩)⟩))
  rw [place1] ; exact q
def gNinRg : PyData → PyData → Option PyData
  | .int i, .int n => some (.bool (!decide (0 ≤ i ∧ i < n)))
  | _, _ => none
abbrev rNinRg : R2 := fun x y H Q => ∃ i a lo hi, x = V.int i ∧ y = V.ref a ∧ H a = some (.rng lo hi) ∧ Q (.bl (!decide (lo ≤ i ∧ i < hi))) H
section
variable {X : Cx} {C : Cf} {W : WX} {m : Md} {k : Nat} {a b : Expr} {ta tb : TE} {fa fb : PX} {pos p' pos' : Pos}
theorem pp_ninRg1 (o : On X C k) (hgr : Gl X "range") (hmr : X.mg "range" = none) (ha : PP X C W .rd a ta fa) (hb : PP X C W .rd b tb fb) (hs : starEach [b] X.env = (false, eval b X.env) :: starEach [] X.env := by rfl) (hm : behindInMarks .NotIn (Expr.Call (.Name "range" p') [b] [] pos') = false := by rfl) :
    PP X C W m (.Compare a [.NotIn] [.Call (.Name "range" p') [b] [] pos'] pos) (tOp rNinRg ta (tCB rRng (tCons tb tNil))) (b2 fa fb gNinRg) := by
  refine ⟨pe_cmpR op_nin_rng ha.pe (pe_callTy cr_range1 hgr hmr boot_range (pa_cons hb.pe pa_nil hs) (by decide) (by decide) hs rfl) hm, fun Γ r' hr' H0 Ox σ H E Q q => ?_⟩
  show ta σ H fun x H1 => tb σ H1 fun y H2 => ∃ j, [y] = [V.int j] ∧ ∀ p, H2 p = none → rNinRg x (.ref p) (upd H2 p (.rng 0 j)) Q
  refine ev_two ha.ev hb.ev E hr' (fun d e z hz er x y H2 s E2 px py => ?_) fun x ex => by subst ex; exact q
  subst er
  unfold gNinRg at hz
  split at hz
  · rename_i i n
    cases hz
    rw [rp_int px, rp_int py]
    exact ⟨n, rfl, fun l hl => ⟨i, l, 0, n, rfl, rfl, upd_same, q _ _ (s.trans (.new E2.mut hl)) mk_bool⟩⟩
  · cases hz
theorem pt_ninRg1 (o : On X C k) (hgr : Gl X "range") (hmr : X.mg "range" = none) (ha : PP X C W .rd a ta fa) (hb : PP X C W .rd b tb fb) (hs : starEach [b] X.env = (false, eval b X.env) :: starEach [] X.env := by rfl) (hm : behindInMarks .NotIn (Expr.Call (.Name "range" p') [b] [] pos') = false := by rfl) :
    PTt X C W (.Compare a [.NotIn] [.Call (.Name "range" p') [b] [] pos'] pos) (tTest (tOp rNinRg ta (tCB rRng (tCons tb tNil)))) (toT (b2 fa fb gNinRg)) := ptt_of (pp_ninRg1 o hgr hmr ha hb hs hm) (pt_cmpR op_nin_rng ha.pe (pe_callTy cr_range1 hgr hmr boot_range (pa_cons hb.pe pa_nil hs) (by decide) (by decide) hs rfl) hm)
end

/-! ## zip of two lists, of two tuples; enumerate of a list -/
def pairD (x y : PyData) : PyData := .tuple [x, y]
section
variable {K : PySem.W.Frag} {Hm : Hp}
theorem pair_new {xs ys : List V} {dxs dys : List PyData} (h1 : RpL K Hm dxs xs) (h2 : RpL K Hm dys ys) {i : Nat} {d : PyData} {H H' : Hp} {v : V} (hd : (List.zipWith pairD dxs dys)[i]? = some d) (y : YPair (fun i => xs[i]?) (fun i => ys[i]?) i H v H') {O : List Addr} (s : Sm Hm (mask O H)) (mu : MutAll O H) : Stp O H H' ∧ Rp K (mask O H') d v := by
  obtain ⟨T, a, b, rfl, hT, rfl, e1, e2⟩ := y
  have e1 : xs[i]? = some a := e1
  have e2 : ys[i]? = some b := e2
  rw [List.getElem?_zipWith] at hd
  cases k1 : dxs[i]? with
  | none => rw [k1] at hd; simp at hd
  | some dx =>
    cases k2 : dys[i]? with
    | none => rw [k1, k2] at hd; simp at hd
    | some dy =>
      rw [k1, k2] at hd
      have hd : pairD dx dy = d := by simpa using hd
      subst hd
      obtain ⟨a', q1, r1⟩ := rpl_get h1 k1
      obtain ⟨b', q2, r2⟩ := rpl_get h2 k2
      rw [e1] at q1 ; cases q1
      rw [e2] at q2 ; cases q2
      refine ⟨.new mu hT, ?_⟩
      have := new_tup (K := K) (m := .st) (O := O) (Ox := []) (H := H) (ds := [dx, dy]) (xs := [a, b]) (p := T) ⟨mu, fun _ z => nomatch z⟩ hT (rpl_cons (r1.sm s) (rpl_cons (r2.sm s) rpl_nil))
      exact this
theorem wlk_zip {a b : Addr} {xs ys : List V} {dxs dys : List PyData} (ha : SqL K Hm a xs) (hb : SqL K Hm b ys) (h1 : RpL K Hm dxs xs) (h2 : RpL K Hm dys ys) : Wlk K Hm (Itz K a b) (List.zipWith pairD dxs dys) :=
  ⟨_, _, walk_zip (xs := xs) (ys := ys) (by rw [List.length_zipWith, rpl_len h1, rpl_len h2]), fun H s => ⟨sqL_sm s ha, sqL_sm s hb⟩, fun i d H x H' hd y O s mu => pair_new h1 h2 hd y s mu⟩
end
def zipX (f g : PX) : PIx := fun Γ => match f Γ with
  | some (.ok (.list xs)) => (match g Γ with
    | some (.ok (.list ys)) => some (.ok (List.zipWith pairD xs ys))
    | some (.error e) => some (.error e)
    | _ => none)
  | some (.error e) => some (.error e)
  | _ => none
section
variable {X : Cx} {C : Cf} {W : WX} {k : Nat} {a b : Expr} {ta tb : TE} {fa fb : PX} {p pos tpos : Pos} {elts : List Expr} {kk : Nat}
theorem pi_zip2 (o : On X C k) (hg : Gl X "zip") (hm : X.mg "zip" = none) (ha : PP X C W .st a ta fa) (hb : PP X C W .st b tb fb) (hs : starEach [a, b] X.env = (false, eval a X.env) :: starEach [b] X.env := by rfl) (hs2 : starEach [b] X.env = (false, eval b X.env) :: starEach [] X.env := by rfl) (hpl : (backTo pos (starEach [b] X.env)).any (·.1) = false := by rfl) :
    PIt X C W (.Tuple elts kk tpos) (.Call (.Name "zip" p) [a, b] [] pos) (iZip C.K (tCons ta (tCons tb tNil))) (zipX fa fb) := ⟨by rw [← o.K]; exact pi_zip hg hm (pa_cons ha.pe (pa_cons hb.pe pa_nil hs2) hs) hs hpl, fun Γ r hr H0 Ox σ H E R q => by
  show ta σ H fun x H1 => tb σ H1 fun y H2 => ∃ a b xs ys, [x, y] = [V.ref a, V.ref b] ∧ SqL C.K H2 a xs ∧ SqL C.K H2 b ys ∧ R (Itz C.K a b) H2
  unfold zipX at hr
  split at hr
  · rename_i xs h1
    refine ha.ev Γ _ h1 H0 Ox σ H E _ fun v H1 s1 p1 => ?_
    have E1 := E.step s1
    split at hr
    · rename_i ys h2
      cases hr
      refine hb.ev Γ _ h2 H0 Ox σ H1 E1 _ fun u H2 s2 p2 => ?_
      obtain ⟨l1, vs1, rfl, k1, k2⟩ := rp_lst (p1.sm s2.1)
      obtain ⟨l2, vs2, rfl, k3, k4⟩ := rp_lst p2
      exact ⟨l1, l2, vs1, vs2, rfl, sqL_sm (mask_le _ _) k1, sqL_sm (mask_le _ _) k3, q _ H2 (s1.trans s2) (wlk_zip k1 k3 k2 k4)⟩
    · rename_i x h2
      cases hr
      exact hb.ev Γ _ h2 H0 Ox σ H1 E1 _ fun H' s => q H' (s1.trans s)
    · cases hr
  · rename_i x h1
    cases hr
    exact ha.ev Γ _ h1 H0 Ox σ H E _ q
  · cases hr⟩
end
end Z

set_option Elab.async false
set_option linter.all false
set_option maxRecDepth 100000
set_option maxHeartbeats 4000000
namespace Z
open PySem PySem.Spec PyProof.Rows L2

/-! ## the end of a law -/
theorem tabIn_of {K : PySem.W.Frag} {x : Str} {f c P : Addr} {oc e : Value} {od dd : Option Addr} {fd : FuncData} {osl sl : Array (Option Value)} {vs : Array Value} (a : PySem.W.nsIn K mainGlobals x = some (some (.ref f))) (l : K.lookup f = some ⟨oc, od, .func fd, osl⟩) (h : fd.code = .ref c) (lc : K.lookup c = some ⟨e, dd, .fields vs, sl⟩) (v : vs[11]? = some (.ref P)) : PySem.W.tabIn K x = some (c, P) := by
  unfold PySem.W.tabIn
  rw [a]
  simp only [l, h, lc, v]

/-- what is known of the law at the heap h of the head -/
def ZAt (l : PySem.W.OpenLaw) (w : World) (K : PySem.W.Frag) (k n : Nat) (mg : Str → Option Value) (fa : Addr) (h : Heap) : Prop :=
  ∃ (cs : List (Addr × Addr)) (F : FX) (fd : FuncData), (∀ p ∈ cs, PySem.W.CodeHd h p.1 p.2 ∧ h.get? p.2 = some { cls := .none, data := .fields #[] }) ∧ (∀ p ∈ cs, K.lookup p.2 = none) ∧
    (∀ ns : List Int, ns.length ≤ n → (∀ z ∈ ns, Builtin.Int.intBits z ≤ 1048576) → F [.list (ns.map .int)] = some (.ok (.bool true))) ∧ (∀ us : List Value, us.length = 1 → bindArgs fd ⟨us, []⟩ = pure ((["script"] : List Str).zip us)) ∧
    ∀ base : Heap, K.In base → base.Ns mainGlobals mg → (∀ p ∈ cs, LamX.TabB base mg p.1 p.2) → FnOk l.prog w K mg base (L2.CX l.prog w) k fa fd ["script"] (spF ⟨K, mg, cs.map (·.2)⟩ 1 F)
theorem walk_z {l : PySem.W.OpenLaw} {n k : Nat} {q : Program} {loose : List Str} {XP : (Str → Option Value) → Heap → Prop} {YP : World → Heap → Prop} {d : DefRec} {K : Params → PySem.W.Frag}
    (hn : l.most = some n) (hn2 : n ≤ sizeLine) (hdf : d.params.defaults = []) (hr : Room k callerA) (hnm : d.name = "law") (hY : ∀ (w : World) (h : Heap), YP w h → (K w.params).In h)
    (F : ∀ (w : World) (mean : ExcName → Option Value) (mg mb : Str → Option Value) (fa : Addr) (h : Heap), YP w h → (K w.params).In h → h.Ns mainGlobals mg → Top q (PySem.W.looseW q loose) mean mg mb h → mg "law" = some (.ref fa) → ZAt l w (K w.params) k n mg fa h) :
    PySem.W.WalkO q loose XP YP l.row.toRowW d [] (fun f vs => PySem.call f vs) := by
  refine Att.attach_callB hn hdf fun w s₀ s₁ mg mb fa o pm cd doc a vs ns G Y ho hd hcd hmg hobj hints hlen hbits hg => ?_
  have KX := hY w _ Y
  rw [hnm] at hmg
  obtain ⟨cs, F', fd, hT, nT, hF, hb, hD⟩ := F w _ mg mb fa _ Y KX G.T.g G.T hmg
  refine LamX.law_callTs (CX := L2.CX l.prog w) (x := "script") KX G.T.g G.T.b G.T.builtins G.T.nolimit hg (fun p hp => (hT p hp).2) nT (fun p hp => (hT p hp).1) G.T.bmain hobj hints (Nat.le_trans hlen hn2) hr hD (fun s u => .of_eq (hb [u] rfl)) (fun H hH hS => ?_) fun H e s' hc => ?_
  · refine ⟨rfl, [.list (ns.map .int)], .ok (.bool true), [], (fun _ h => nomatch h), fun P hP => ?_, ?_, hF ns hlen hbits, fun v H' _ p => rp_bool p⟩
    · obtain ⟨p, hp, rfl⟩ := List.mem_map.mp hP
      exact ⟨#[], hH p hp, by first | exact trivial | exact .nil | (show PySem.TriplesOk []; constructor) | decide⟩
    · rw [mask_nil]
      exact rpl_cons (mk_lst hS (rpl_ints ns)) rpl_nil
  · obtain ⟨_, _, _, _, _, _, _, _, _, _, _, _, z⟩ := hc
    exact z
end Z

set_option Elab.async false
set_option linter.all false
set_option maxRecDepth 100000
set_option maxHeartbeats 4000000
namespace Z
open PySem PySem.Spec PyProof.Rows L2

/-! ## sorted(xs), texts of any number -/
def stV : Value → List Nat
  | .str z _ => z.cps.toList
  | _ => []
def ltSv (v u : Value) : Bool := decide (stV v < stV u)
theorem swo_txt : SrtO.Swo ltSv := ⟨fun x y h => by
  have h := of_decide_eq_true h
  exact decide_eq_false fun k => List.lt_asymm h k, fun x y z h1 h2 => by
  have h1 := of_decide_eq_false h1
  have h2 := of_decide_eq_false h2
  exact decide_eq_false fun k => by
    have a := List.not_lt.mp h1
    have b := List.not_lt.mp h2
    exact List.not_lt.mpr (List.le_trans a b) k⟩
theorem txt_mem {v : Value} : ∀ {vs : List Value} {ss : List Str}, StrsAre vs ss → v ∈ vs → ∃ z t, v = .str z t
  | _, _, .nil, h => nomatch h
  | _, _, .cons y t r, h => by
    rcases List.mem_cons.mp h with e | e
    · exact ⟨y, t, e⟩
    · exact txt_mem r e
theorem txt_sortable {prog : Program} {w : World} {A : Around} {s : Shared} {a : Addr} {vs : List Value} {ss : List Str} (hI : StrsAre vs ss) (h2 : 2 ≤ vs.length) : SrtO.SortableO prog w A s a vs ltSv := fun h' _ => by
  refine ⟨oneType', fun Q E hq => ?_, fun p q hm hm' => ?_⟩
  · match vs, hI, h2 with
    | v1 :: v2 :: rest, hI, _ => rw [keyKind_strs hI]; exact wpAny_pure hq
    | [v], _, h => exact absurd (show 2 ≤ 1 from h) (by decide)
    | [], _, h => exact absurd (show 2 ≤ 0 from h) (by decide)
  · obtain ⟨x, t, e⟩ := txt_mem hI hm
    obtain ⟨y, u, e'⟩ := txt_mem hI hm'
    rw [e, e', keyLt'_oneType]
    refine oneLt_str ⟨rfl, ?_⟩
    show _ = ltSv p.fst q.fst
    rw [e, e']
    rfl
def sv : Value → Str
  | .str z _ => z
  | _ => ""
theorem txt_sv : ∀ {vs : List Value} {ss : List Str}, StrsAre vs ss → vs.map sv = ss
  | _, _, .nil => rfl
  | _, _, .cons y t r => by rw [List.map_cons, txt_sv r]; rfl
theorem sv_txt : ∀ {vs : List Value}, (∀ v ∈ vs, ∃ z t, v = Value.str z t) → StrsAre vs (vs.map sv)
  | [], _ => .nil
  | v :: vs, h => by
    obtain ⟨z, t, rfl⟩ := h v List.mem_cons_self
    exact .cons z t (sv_txt fun u hu => h u (List.mem_cons_of_mem _ hu))
/-- in ascending order -/
abbrev Asc (ss : List Str) : Prop := ss.Pairwise fun x y => x.cps.toList ≤ y.cps.toList
theorem txt_out {vs out : List Value} {ss : List Str} (hI : StrsAre vs ss) (hs : SrtO.Srtd ltSv out) (hb : SrtO.Stb ltSv out vs) : StrsAre out (out.map sv) ∧ (out.map sv).Perm ss ∧ Asc (out.map sv) := by
  have m : ∀ v ∈ out, ∃ z t, v = Value.str z t := fun v hv => txt_mem hI ((List.Perm.mem_iff hb.perm).mp hv)
  refine ⟨sv_txt m, ?_, ?_⟩
  · have q := hb.perm.map sv
    rwa [txt_sv hI] at q
  · unfold Asc
    rw [List.pairwise_map]
    have hs' : out.Pairwise fun x y => ltSv y x = false := hs
    refine hs'.imp_of_mem fun {x y} hx hy h => ?_
    obtain ⟨z, t, rfl⟩ := m x hx
    obtain ⟨z', t', rfl⟩ := m y hy
    exact List.not_lt.mp (of_decide_eq_false h)
def rSortedT (K : PySem.W.Frag) : List V → Hp → VK → Prop := fun vs H Q => ∃ a ss, vs = [.ref a] ∧ SqL K H a (ss.map V.str) ∧ ∀ (ss' : List Str) (p : Addr), ss'.Perm ss → Asc ss' → H p = none → Q (.ref p) (upd H p (.lst (ss'.map V.str)))
theorem cr_sortedT {X : Cx} : CallR X (.builtin "sorted") (rSortedT X.K) := by
  intro pins s σ H vs us Q I r h
  obtain ⟨a, ss, rfl, hs, q⟩ := h
  obtain ⟨its, rv, hl, hz⟩ := I.list hs
  rw [r.ref1]
  have hi := rv.strs
  refine SrtO.sorted_ord swo_txt hl.isList (by rw [rv.length] at hz; exact hz) (fun h2 h₁ a' _ _ => txt_sortable hi h2) fun out h1 h2 => ?_
  obtain ⟨k1, k2, k3⟩ := txt_out hi h1 h2
  obtain ⟨ep, he⟩ := sortedAll_at s.heap its out.toArray
  have hlen : ((out.map sv).map V.str).length ≤ sizeLine := by rw [List.length_map, k2.length_eq]; rwa [List.length_map] at hz
  exact ⟨.ref (s.heap.objs.size + 1), upd H (s.heap.objs.size + 1) (.lst ((out.map sv).map V.str)), I.laid (fun _ _ => sortedAll_old) (Nat.le_succ _) ⟨hlen, out, ep, vals_of_strs k1, he⟩, rfl, q _ _ k2 k3 (I.hok.fresh (Nat.le_succ _))⟩
/-- the texts of a list in ascending order -/
def ssort (ss : List Str) : List Str := ss.mergeSort fun x y => decide (x.cps.toList ≤ y.cps.toList)
theorem str_eq {x y : Str} (h : x.cps.toList = y.cps.toList) : x = y := by
  obtain ⟨⟨l⟩⟩ := x
  obtain ⟨⟨m⟩⟩ := y
  have h : l = m := h
  rw [h]
theorem ssort_unique {ns ns' : List Str} (hp : ns'.Perm ns) (hs : Asc ns') : ns' = ssort ns := by
  have h1 : Asc (ssort ns) := by
    have := List.pairwise_mergeSort (le := fun (a b : Str) => decide (a.cps.toList ≤ b.cps.toList)) (fun a b c h1 h2 => by
      have h1 := of_decide_eq_true h1; have h2 := of_decide_eq_true h2
      exact decide_eq_true (List.le_trans h1 h2)) (fun a b => by
      rcases List.le_total a.cps.toList b.cps.toList with h | h
      · simp [h]
      · simp [h]) ns
    exact this.imp fun {x y} h => of_decide_eq_true h
  exact List.Perm.eq_of_pairwise (le := fun x y => x.cps.toList ≤ y.cps.toList) (fun a b _ _ h1 h2 => str_eq (List.le_antisymm h1 h2)) hs h1 (hp.trans (List.mergeSort_perm ns _).symm)
def gSortX : PyData → Option PyData
  | .list ds => (match ints? ds with
    | some ns => some (.list ((isort ns).map .int))
    | none => (strs? ds).map fun ss => .list ((ssort ss).map .str))
  | _ => none
section
variable {X : Cx} {C : Cf} {W : WX} {m : Md} {k : Nat} {a : Expr} {ta : TE} {fa : PX} {pos p : Pos}
theorem rhf_sortX {K : PySem.W.Frag} : RHF K m (fun vs H Q => rSortedI K vs H Q ∨ rSortedT K vs H Q) gSortX := by
  intro d z hz O Ox x H mu px Q q
  unfold gSortX at hz
  split at hz
  · rename_i ds
    cases h1 : ints? ds with
    | some ns =>
      rw [h1] at hz; cases hz
      obtain ⟨p, xs, rfl, h2, h3⟩ := px
      have e := ints_v h1 h3
      subst e
      refine .inl ⟨p, ns, rfl, h2, fun ns' l hp hs hl => ?_⟩
      rw [isort_unique hp hs]
      exact q l _ H (.refl _ _) hl ⟨_, rfl, rpl_ints _⟩
    | none =>
      rw [h1] at hz
      simp only at hz
      cases h4 : strs? ds with
      | none => rw [h4] at hz; cases hz
      | some ss =>
        rw [h4] at hz; cases hz
        obtain ⟨p, xs, rfl, h2, h3⟩ := px
        have e := strs_v h4 h3
        subst e
        refine .inr ⟨p, ss, rfl, h2, fun ns' l hp hs hl => ?_⟩
        rw [ssort_unique hp hs]
        exact q l _ H (.refl _ _) hl ⟨_, rfl, rpl_strs _⟩
  · cases hz
theorem pf_sortX (o : On X C k) (hg : Gl X "sorted") (hm : X.mg "sorted" = none) (ha : PH X C W m a ta fa) (hs : starEach [a] X.env = (false, eval a X.env) :: starEach [] X.env := by rfl) : PF X C W m (.Call (.Name "sorted" p) [a] [] pos) (tCB (fun vs H Q => rSortedI C.K vs H Q ∨ rSortedT C.K vs H Q) (tCons ta tNil)) (b1 fa gSortX) := pf_b1 (hs := hs) (by rw [← o.K]; exact cr_sortedI.or cr_sortedT) rhf_sortX boot_sorted' hg hm ha
end
end Z

set_option Elab.async false
set_option linter.all false
set_option maxRecDepth 100000
set_option maxHeartbeats 4000000
namespace Z
open PySem PySem.Spec PyProof.Rows L2

/-! ## a text times a number -/
def repS (a : Str) (n : Nat) : Str := ⟨((List.replicate n a.cps.toList).flatten).toArray⟩
theorem foldl_app (a : Array Nat) : ∀ (n : Nat) (b : Array Nat), (List.foldl (fun x y => x ++ y) b (List.replicate n a)).toList = b.toList ++ (List.replicate n a.toList).flatten
  | 0, b => by simp
  | n + 1, b => by
    rw [List.replicate_succ, List.foldl_cons, foldl_app a n, List.replicate_succ, List.flatten_cons]
    simp
theorem repS_fold (a : Str) (n : Nat) : (⟨List.foldl (fun x y => x ++ y) #[] (List.replicate n a.cps)⟩ : Str) = repS a n := by
  apply str_eq
  rw [foldl_app]
  simp [repS]
theorem repS_cps (a : Str) (n : Nat) : (repS a n).cps.toList = (List.replicate n a.cps.toList).flatten := by simp [repS]
theorem repS_len (a : Str) (n : Nat) : (repS a n).length = a.length * n := by
  show (repS a n).cps.size = a.cps.size * n
  rw [← Array.length_toList, repS_cps, List.length_flatten, List.map_replicate, List.sum_replicate_nat, Array.length_toList, Nat.mul_comm]
theorem repS_one (a : Str) : repS a 1 = a := by
  apply str_eq
  simp [repS]
theorem repS_nil {a : Str} (h : a.length = 0) (n : Nat) : repS a n = a := by
  have e : a.cps.toList = [] := List.eq_nil_of_length_eq_zero (by rw [Array.length_toList]; exact h)
  apply str_eq
  rw [e]
  simp [repS, e]
def rRepS : R2 := fun x y H Q => ∃ a k, x = .str a ∧ y = .int k ∧ -(2 ^ 63) ≤ k ∧ k < 2 ^ 63 ∧ a.length * k.toNat ≤ big ∧ Q (.str (repS a k.toNat)) H
theorem notTooLong {n : Nat} (h : n ≤ big) : Builtin.Str.tooLong n = false := by
  unfold Builtin.Str.tooLong
  exact decide_eq_false (Nat.not_lt.mpr (big_ok h))
theorem op_repS {X : Cx} : OpR X (binaryOp .Mult) rRepS := by
  intro pins s σ H x y v u Q I rx ry h
  obtain ⟨a, k, rfl, rfl, h1, h2, h3, q⟩ := h
  obtain ⟨t, rfl⟩ := rx
  obtain ⟨t2, rfl⟩ := ry
  refine wpAny_binaryOp_repeat (T := "str") (U := "int") (by decide) (fun s' => typeIs_str s' a t) (fun s' => typeIs_int s' k t2) noFill_str_mul PySem.F.fills_int_mul PySem.F.slot_int_rmul repeat_str PySem.F.slot_int_index.lookup ?_
  refine call_meets PySem.F.slot_int_rmul (typeIs_int s k t2) PySem.F.entry_int_rmul (PySem.F.args_int_rmul_2 _ _) (AutoIntG1.int___rmul___int_str_0 k t2 a t).meets ⟨rfl, ?_⟩
  have long : ¬ k < 1 → (k == 1 || a.length == 0) = false → ¬ ((a.length : Int) > (2 ^ 63 - 1) / k) := fun p1 p2 => by
    have hk : 0 < k := by omega
    have e : ((a.length * k.toNat : Nat) : Int) = a.length * k := by rw [Int.natCast_mul, Int.toNat_of_nonneg (by omega)]
    have : (a.length : Int) * k ≤ 1000000 := by rw [← e]; exact Int.ofNat_le.mpr h3
    have : (a.length : Int) ≤ (2 ^ 63 - 1) / k := Int.le_ediv_of_mul_le hk (by omega)
    omega
  have g := gives_str_mul a k t t2 (by simp; omega) long fun _ _ => notTooLong h3
  refine call_meets PySem.F.slot_str_mul (typeIs_str s a t) PySem.F.entry_str_mul (PySem.F.args_str_mul_2 _ _) g.meets ?_
  by_cases c1 : k < 1
  · rw [if_pos c1]
    have e : k.toNat = 0 := by omega
    rw [e] at q
    exact ⟨by decide, .str _, H, I.tok _, ⟨_, rfl⟩, q⟩
  · rw [if_neg c1]
    by_cases c2 : (k == 1 || a.length == 0) = true
    · rw [if_pos c2]
      have e : repS a k.toNat = a := by
        rcases Bool.or_eq_true _ _ ▸ c2 with e | e
        · have : k = 1 := by simpa using e
          subst this
          exact repS_one a
        · exact repS_nil (by simpa using e) _
      rw [e] at q
      exact ⟨.str _, H, I, ⟨t, rfl⟩, q⟩
    · rw [if_neg c2]
      rw [repS_fold]
      exact ⟨by rw [repS_len]; exact big_ok h3, .str _, H, I.tok _, ⟨_, rfl⟩, q⟩
/-- what * gives, also of a text and a number -/
def gMulX : PyData → PyData → Option PyData
  | .str a, .int k => if -(2 ^ 63) ≤ k ∧ k < 2 ^ 63 ∧ a.length * k.toNat ≤ big then some (.str (repS a k.toNat)) else none
  | d, e => gMul d e
theorem rb_mulX {K : PySem.W.Frag} {m : Md} : RB K m (fun x y H Q => rMulX K x y H Q ∨ rRepS x y H Q) gMulX := by
  intro d e z hz O Ox x y H mu px py Q q
  unfold gMulX at hz
  split at hz
  · rename_i a k
    by_cases h : -(2 ^ 63) ≤ k ∧ k < 2 ^ 63 ∧ a.length * k.toNat ≤ big
    · rw [if_pos h] at hz; cases hz
      rw [rp_str px, rp_int py]
      exact .inr ⟨a, k, rfl, rfl, h.1, h.2.1, h.2.2, q _ _ (.refl _ _) mk_str⟩
    · rw [if_neg h] at hz; cases hz
  · exact .inl (rb_mul d e z hz O Ox x y H mu px py Q q)
section
variable {X : Cx} {C : Cf} {W : WX} {m : Md} {k : Nat} {a b : Expr} {ta tb : TE} {fa fb : PX} {pos : Pos}
theorem pp_mulX (o : On X C k) (ha : PP X C W m a ta fa) (hb : PP X C W m b tb fb) : PP X C W m (.BinOp a .Mult b pos) (tOp (fun x y H Q => rMulX C.K x y H Q ∨ rRepS x y H Q) ta tb) (b2 fa fb gMulX) := pp_bin (by rw [← o.K]; exact op_mulX.or op_repS) rb_mulX ha hb
end
theorem gv_mulX {i j : Int} (h : okMul i j) : gMulX (.int i) (.int j) = some (.int (i * j)) := if_pos h
theorem gv_mulS {a : Str} {k : Int} (h1 : -(2 ^ 63) ≤ k) (h2 : k < 2 ^ 63) (h3 : a.length * k.toNat ≤ big) : gMulX (.str a) (.int k) = some (.str (repS a k.toNat)) := if_pos ⟨h1, h2, h3⟩
theorem gv_mulXT {xs : List PyData} {k : Int} : gMulX (.tuple xs) (.int k) = gMul (.tuple xs) (.int k) := rfl
end Z

set_option Elab.async false
set_option linter.all false
set_option maxRecDepth 100000
set_option maxHeartbeats 4000000
namespace Z
open PySem PySem.Spec PyProof.Rows L2

/-! ## a def where no display is being shown: repr of tuples and lists may be asked -/
structure FnG (P : Program) (w : World) (K : PySem.W.Frag) (mg : Str → Option Value) (base : Heap) (CC : CXT) (k : Nat) (f : Addr) (fd : FuncData) (ps : List Str) (sp : Sp) : Prop where
  len : ∀ vs H Q E, sp vs H Q E → vs.length = ps.length
  run : ∀ (A : Around) (outer : List Env) (s : Shared) (H : Hp) (args : Args) (us : List Value) (vs : List V) (Q : VK) (E : XK), A.guards = some [] → Room k A → Env0 P w K mg base A outer s H → BindsTo s fd args (ps.zip us) → Vals vs us → sp vs H Q E →
    codeAny (model P w) A (.call (.ref f) args) (L2.CR CC outer P w H s Q E) s
theorem fn_ofG {CC : CXT} {P : Program} {w : World} {K : PySem.W.Frag} {mg : Str → Option Value} {base : Heap} {k : Nat} {f : Addr} {name qual : Str} {params : Arguments} {body : List Stmt} {scope : Scope} {dV kV doc pm cdv ct oc : Value} {an od : Option Addr} {osl : Array (Option Value)} {N ps : List Str} {sp : Sp}
    (lk : K.lookup f = some ⟨oc, od, .func (PySem.W.fnOf name qual params body scope dV kV doc pm an cdv ct), osl⟩) (hcd : PySem.W.codeIn K cdv qual = true) (S : FnScope N ps scope) (len : ∀ vs H Q E, sp vs H Q E → vs.length = ps.length)
    (hbody : ∀ (A : Around) (outer : List Env) (s : Shared) (H : Hp) (vs : List V) (Q : VK) (E : XK), A.guards = some [] → Room k (A.deeper (envOfC qual scope s.heap.objs.size f cdv)) → sp vs H Q E → ∃ t, PSs (cxOf CC P w K mg base N qual scope f cdv A outer s H E) body t ∧ t { nx := fun _ H' => Q .non H', rt := Q } (L2.start N vs) H) :
    FnG P w K mg base CC (k + 1) f (PySem.W.fnOf name qual params body scope dV kV doc pm an cdv ct) ps sp := by
  refine ⟨len, fun A outer s H args us vs Q E hgd hr e0 hb r hsp => ?_⟩
  have hl := len vs H Q E hsp
  have KX : K.In s.heap := PySem.W.Frag.In.keeps e0.mod.kin fun b o e => (e0.bs b o e).1
  have lim := Heap.NoLimit.keeps e0.mod.nolimit fun b o e => (e0.bs b o e).1
  refine codeAny_call_function hr.depth (KX f _ lk) rfl S.co S.gen rfl (PySem.W.codeRec_of KX hcd) ?_
  refine hb (model P w) A.in1 _ _ ?_
  refine wpAny_newFunctionEnv_cells S.kind (fun y hy => ?_) fun env he s1 x => ?_
  · rcases S.par y.1 (List.of_mem_zip hy).1 with q | q
    · exact .inl q
    · exact .inr ⟨q, PySem.W.cellsFrom_some scope.names (s.heap.objs.size + 1) [] (.inl q)⟩
  · subst he
    refine ⟨Heap.NoLimit.keeps lim x.toInCall.keep, codeAny_func ?_⟩
    obtain ⟨t, ht, hq⟩ := hbody A outer s H vs Q E hgd (hr.deeper _) hsp
    have I := inv_start (CX := CC) (E := E) S hr.hd e0 hl r x
    refine wpAny_mono (ht.run [] s1 (L2.start N vs) H _ I hq) (fun fl s' hs => ?_) fun e s' hs => hs
    cases fl with
    | ret u =>
      obtain ⟨v, σ', H', J, rv, q⟩ := hs
      exact ⟨v, H', J.os, J.bare, J.base, J.hok, rv, q⟩
    | next =>
      obtain ⟨σ', H', J, q⟩ := hs
      exact ⟨.non, H', J.os, J.bare, J.base, J.hok, rfl, q⟩
    | brk => obtain ⟨_, _, _, q⟩ := hs; exact q.elim
    | cont => obtain ⟨_, _, _, q⟩ := hs; exact q.elim
/-- the call of the law -/
theorem law_callG {P : Program} {w : World} {K : PySem.W.Frag} {mg mb : Str → Option Value} {CC : CXT} {k : Nat} {fa a : Addr} {cs : List (Addr × Addr)} {fd : FuncData} {x : Str} {sp : Sp} {s₁ : Shared} {vs : List Value} {ns : List Int}
    (KX : K.In s₁.heap) (hns : s₁.heap.Ns mainGlobals mg) (hb : s₁.heap.Ns builtinsNs mb) (hbb : ∀ x : Str, x ≠ "__name__" → mb x = bootBuiltins x) (hlim : s₁.heap.NoLimit) (hg : s₁.gens = #[])
    (hT : ∀ p ∈ cs, s₁.heap.get? p.2 = some { cls := .none, data := .fields #[] }) (nT : ∀ p ∈ cs, K.lookup p.2 = none) (Cd : ∀ p ∈ cs, PySem.W.CodeHd s₁.heap p.1 p.2)
    (hbm : ∃ bm ob, mg "__builtins__" = some (.ref bm) ∧ bm ≠ builtinsNs ∧ s₁.heap.get? bm = some ob ∧ ob.cls = .type "module" ∧ ob.dict = some builtinsNs ∧ ob.data = .plain)
    (ha : s₁.heap.get? a = some { cls := .type "list", data := .seq vs.toArray }) (hi : IntsAre vs ns) (hl : ns.length ≤ sizeLine) (hr : Room k callerA)
    (F : ∀ base : Heap, K.In base → base.Ns mainGlobals mg → (∀ p ∈ cs, LamX.TabB base mg p.1 p.2) → FnG P w K mg base CC k fa fd [x] sp)
    (hbind : ∀ (s : Shared) (u : Value), BindsTo s fd ⟨[u], []⟩ [(x, u)])
    (hsp : ∀ H : Hp, (∀ p ∈ cs, H p.2 = some (.tbl #[])) → SqL K H a (ns.map V.int) → sp [.ref a] H (fun v _ => v = .bl true) fun _ _ _ => False)
    (hCX : ∀ (H : Hp) (e : Value) (s' : Shared), CC [] H s₁ (fun _ _ _ => False) e s' → False) :
    codeAny (model P w) callerA (.call (.ref fa) ⟨[.ref a], []⟩) (fun r s' => r = .ok (.ret (.bool true)) ∧ OldK s₁.heap s'.heap ∧ s'.os = s₁.os ∧ AllBare s'.gens) s₁ := by
  have rv := vals_ints hi
  have isT : ∀ b ∈ cs.map (·.2), s₁.heap.get? b = some { cls := .none, data := .fields #[] } := fun b hb => by
    obtain ⟨p, hp, rfl⟩ := List.mem_map.mp hb
    exact hT p hp
  have aT : a ∉ cs.map (·.2) := fun z => by
    have q := isT a z
    rw [ha] at q
    cases q
  have core : ∀ H : Hp, (∀ p ∈ cs, H p.2 = some (.tbl #[])) → (∀ b, H b = none ∨ b ∈ cs.map (·.2) ∨ ∃ o u, H b = some (.frz o u)) → SqL K H a (ns.map V.int) → HOk P w H s₁.heap → (∀ b, H b ≠ none → b = a ∨ b ∈ cs.map (·.2)) → (H a ≠ none → K.lookup a = none) →
      codeAny (model P w) callerA (.call (.ref fa) ⟨[.ref a], []⟩) (fun r s' => r = .ok (.ret (.bool true)) ∧ OldK s₁.heap s'.heap ∧ s'.os = s₁.os ∧ AllBare s'.gens) s₁ := by
    intro H hH hO hS hok hA hK
    have noD : ∀ {b : Addr} {o : Obj}, s₁.heap.get? b = some o → (∀ us n, o.data ≠ .seq us n) → o.data ≠ .fields #[] → H b = none := fun {b o} e h1 h2 => by
      cases q : H b with
      | none => rfl
      | some u =>
        rcases hA b (by rw [q]; exact fun z => nomatch z) with e' | e'
        · rw [e', ha] at e
          cases e
          exact absurd rfl (h1 _ _)
        · rw [isT b e'] at e
          cases e
          exact absurd rfl h2
    have nsK : ∀ {b : Addr} {m : Str → Option Value}, s₁.heap.Ns b m → (hidT s₁.heap H).Ns b m := fun {b m} ⟨o, es, ep, e, d, r⟩ => ⟨o, es, ep, hidT_get e (noD e (fun us n z => by rw [d] at z; cases z) fun z => by rw [d] at z; cases z), d, r⟩
    have hKb : K.In (hidT s₁.heap H) := fun b o e => hidT_get (KX b o e) (by
      cases q : H b with
      | none => rfl
      | some u =>
        rcases hA b (by rw [q]; exact fun z => nomatch z) with e' | e'
        · rw [e', hK (by rw [← e', q]; exact fun z => nomatch z)] at e
          cases e
        · obtain ⟨p, hp, ep⟩ := List.mem_map.mp e'
          rw [← ep, nT p hp] at e
          cases e)
    have hM : L2.Mod K mg (hidT s₁.heap H) := ⟨hKb, nsK hns, ⟨mb, nsK hb, hbb⟩, by
      obtain ⟨mc, h1, h2⟩ := hlim
      exact ⟨mc, nsK h1, h2⟩⟩
    have TB : ∀ p ∈ cs, LamX.TabB (hidT s₁.heap H) mg p.1 p.2 := fun p hp => by
      have hTp := hT p hp
      refine ⟨?_, ?_, ?_⟩
      · obtain ⟨o, us, file, tf, flags, tg, inF, text, tt, e1, r1, r2, r3, r4⟩ := Cd p hp
        refine ⟨o, us, file, tf, flags, tg, inF, text, tt, hidT_get e1 (noD e1 (fun us n z => by rw [r2] at z; cases z) fun z => ?_), r1, r2, r3, r4⟩
        rw [r2] at z
        cases z
        simp at r3
      · obtain ⟨bm, ob, b1, b2, b3, b4, b5, b6⟩ := hbm
        refine ⟨bm, ob, b1, b2, fun q => ?_, fun q => ?_, hidT_get b3 (noD b3 (fun us n z => by rw [b6] at z; cases z) fun z => by rw [b6] at z; cases z), b4, b5, b6⟩
        · obtain ⟨o, es, ep, e, d, r⟩ := hns
          rw [q, e] at b3
          cases b3
          rw [d] at b6
          cases b6
        · rw [q, hTp] at b3
          cases b3
          cases b6
      · intro z
        obtain ⟨o, es, ep, e, d, r⟩ := hns
        rw [z, hTp] at e
        cases e
        cases d
    have e0 : Env0 P w K mg (hidT s₁.heap H) callerA [] s₁ H := ⟨rfl, hM, fun b o e => of_hidT e, Nat.le_of_eq (hidT_size s₁.heap H), trivial, fun b hb => (by cases hb), hok, .of_eq hg⟩
    refine codeAny_mono ((F (hidT s₁.heap H) hKb (nsK hns) TB).run callerA [] s₁ H ⟨[.ref a], []⟩ [.ref a] [.ref a] (fun v _ => v = .bl true) (fun _ _ _ => False) rfl hr e0 (hbind s₁ _) (.cons rfl .nil) (hsp H hH hS)) fun r s' h => ?_
    cases r with
    | error e => exact (hCX H e s' h).elim
    | ok fl =>
      cases fl with
      | next => exact h.elim
      | brk => exact h.elim
      | cont => exact h.elim
      | ret u =>
        obtain ⟨v, H', os, bare, un, hok', r', q⟩ := h
        have q : v = .bl true := q
        subst q
        have r' : u = .bool true := r'
        subst r'
        have key : ∀ (b : Addr) (o : Obj), b ∉ cs.map (·.2) → s₁.heap.get? b = some o → s'.heap.get? b = some o := fun b o nb e => by
          cases q : H b with
          | none => exact un.keep b o e q (fun z => by cases z) (fun z => by cases z)
          | some u =>
            rcases hO b with z | z | ⟨o', u', z⟩
            · rw [q] at z; cases z
            · exact absurd z nb
            · have h1 := hok' b _ (un.frzs b o' u' z)
              have h2 := hok b _ z
              simp only [ObjOk] at h1 h2
              rw [h2.1] at e
              cases e
              exact h1.1
        have tab : ∀ (b : Addr) (o : Obj), b ∈ cs.map (·.2) → s₁.heap.get? b = some o → ∃ more, s'.heap.get? b = some { cls := .none, data := .fields (#[] ++ more) } ∧ o = { cls := .none, data := .fields #[] } ∧ isCodeTable s₁.heap b := fun b o hb e => by
          rw [isT b hb] at e
          cases e
          obtain ⟨p, hp, rfl⟩ := List.mem_map.mp hb
          obtain ⟨more, z⟩ := un.tbls p.2 #[] (hH p hp)
          have h1 := hok' p.2 _ z
          simp only [ObjOk] at h1
          obtain ⟨o, us, file, tf, flags, tg, inF, text, tt, e1, r1, r2, r3, r4⟩ := Cd p hp
          exact ⟨more, h1, rfl, p.1, o, us, e1, r1, r2, r3⟩
        refine ⟨rfl, ⟨fun b o e => ?_, fun b o e => ?_⟩, os, bare⟩
        · by_cases hb : b ∈ cs.map (·.2)
          · obtain ⟨more, h1, rfl, h2⟩ := tab b o hb e
            exact .inr (.inl ⟨h2, rfl, #[], more, rfl, h1⟩)
          · exact .inl (key b o hb e)
        · by_cases hb : b ∈ cs.map (·.2)
          · obtain ⟨more, h1, _, _⟩ := tab b o hb e
            exact ⟨_, h1⟩
          · exact ⟨o, key b o hb e⟩
  cases hk : K.lookup a with
  | none =>
    refine core (fun b => if b = a then some (.frz { cls := .type "list", data := .seq vs.toArray } (.lst (ns.map V.int))) else if b ∈ cs.map (·.2) then some (.tbl #[]) else none) (fun p hp => ?_) (fun b => ?_) (.inl (.inr ⟨_, if_pos rfl⟩)) (fun b u z => ?_) (fun b z => ?_) fun _ => hk
    · have m : p.2 ∈ cs.map (·.2) := List.mem_map.mpr ⟨p, hp, rfl⟩
      exact (if_neg (fun z => aT (by rw [← z]; exact m))).trans (if_pos m)
    · by_cases h1 : b = a
      · exact .inr (.inr ⟨_, _, if_pos h1⟩)
      · by_cases h2 : b ∈ cs.map (·.2)
        · exact .inr (.inl h2)
        · exact .inl ((if_neg h1).trans (if_neg h2))
    · by_cases h1 : b = a
      · have z' := (if_pos h1).symm.trans z
        cases z'
        subst h1
        simp only [ObjOk]
        exact ⟨ha, by rw [List.length_map]; exact hl, vs, 0, rv, ha⟩
      · have z1 := (if_neg h1).symm.trans z
        by_cases h2 : b ∈ cs.map (·.2)
        · have z' := (if_pos h2).symm.trans z1
          cases z'
          exact isT b h2
        · have z' := (if_neg h2).symm.trans z1
          cases z'
    · by_cases h1 : b = a
      · exact .inl h1
      · by_cases h2 : b ∈ cs.map (·.2)
        · exact .inr h2
        · exact absurd ((if_neg h1).trans (if_neg h2)) z
  | some o =>
    have e := KX a o hk
    rw [ha] at e
    cases e
    have lenV := hi.length
    refine core (fun b => if b ∈ cs.map (·.2) then some (.tbl #[]) else none) (fun p hp => if_pos (List.mem_map.mpr ⟨p, hp, rfl⟩)) (fun b => ?_) (.inr ⟨_, vs.toArray, 0, hk, rfl, rfl, rfl, by rw [List.size_toArray, lenV]; exact hl, rv⟩) (fun b u z => ?_) (fun b z => ?_) fun z => absurd (if_neg aT) z
    · by_cases h2 : b ∈ cs.map (·.2)
      · exact .inr (.inl h2)
      · exact .inl (if_neg h2)
    · by_cases h2 : b ∈ cs.map (·.2)
      · have z' := (if_pos h2).symm.trans z
        cases z'
        exact isT b h2
      · have z' := (if_neg h2).symm.trans z
        cases z'
    · by_cases h2 : b ∈ cs.map (·.2)
      · exact .inr h2
      · exact absurd (if_neg h2) z
theorem fn_zG {P : Program} {w : World} {base : Heap} {C : Cb} {x qual : Str} {f : Addr} {params : Arguments} {body : List Stmt} {scope : Scope} {dV kV doc pm cdv ct oc : Value} {an od : Option Addr} {osl : Array (Option Value)} {N ps : List Str} {fl : List Nat} {fb : SX} {k : Nat}
    (hmg : C.mg x = some (.ref f)) (lk : C.K.lookup f = some ⟨oc, od, .func (PySem.W.fnOf x qual params body scope dV kV doc pm an cdv ct), osl⟩) (hcd : PySem.W.codeIn C.K cdv qual = true) (hk : PySem.W.keepIn C.K (.ref f) = true)
    (S : FnScope N ps scope) (hb : ∀ us : List Value, us.length = ps.length → bindArgs (PySem.W.fnOf x qual params body scope dV kV doc pm an cdv ct) ⟨us, []⟩ = pure (ps.zip us)) (hfl : (fl.all fun i => decide (ps.length ≤ i)) = true)
    (hbody : ∀ (A : Around) (outer : List Env) (s : Shared) (H : Hp) (E : XK), A.guards = some [] → Room k (A.deeper (envOfC qual scope s.heap.objs.size f cdv)) → ∃ t, PBk (cxOf (L2.CX P w) P w C.K C.mg base N qual scope f cdv A outer s H E) (CfD C fl) (WD E) body t fb) :
    FnG P w C.K C.mg base (L2.CX P w) (k + 1) f (PySem.W.fnOf x qual params body scope dV kV doc pm an cdv ct) ps (spF C ps.length (defX ps.length N.length fb)) := by
  have ln : ∀ ds r, defX ps.length N.length fb ds = some r → ds.length = ps.length := fun ds r h => by
    unfold defX at h
    by_cases e : ds.length = ps.length
    · exact e
    · rw [if_neg e] at h; cases h
  refine fn_ofG lk hcd S (fun vs H Q E h => h.1) fun A outer s H vs Q E hgd hr hsp => ?_
  obtain ⟨t, h⟩ := hbody A outer s H E hgd hr
  refine ⟨t, h.pe, ?_⟩
  obtain ⟨_, ds, r, O, mu, tb, p, hF, hr⟩ := hsp
  have hn := ln ds r hF
  unfold defX at hF
  rw [if_pos hn] at hF
  have fl' : ∀ i ∈ fl, ds.length ≤ i := fun i hi => by
    have := List.all_eq_true.mp hfl i hi
    rw [hn]
    exact of_decide_eq_true this
  have E0 := env_start (N := N) (fl := fl) mu tb p fl'
  rw [hn] at E0
  cases h1 : fb (ds.map some ++ List.replicate (N.length - ps.length) none) with
  | none => rw [h1] at hF; cases hF
  | some ocm =>
    rw [h1] at hF
    refine h.ev _ ocm h1 H O _ H E0 _ ?_
    cases ocm with
    | nx Γ => cases hF; exact fun σ H' E' => hr _ H' (E'.sm.trans (mask_le _ _)) mk_none
    | bk Γ => cases hF
    | ct Γ => cases hF
    | rt d => cases hF; exact fun v H' s pp => hr v H' s pp
    | re d Γ => cases hF
    | ex e Γ =>
      cases hF
      intro σ H' E'
      cases e with
      | own c => exact hr H' (E'.sm.trans (mask_le _ _))
      | fld c f d => exact fun dd v hn p => hr H' dd v (E'.sm.trans (mask_le _ _)) hn p
/-- what is known of the law at the heap h of the head -/
def ZAtG (l : PySem.W.OpenLaw) (w : World) (K : PySem.W.Frag) (k n : Nat) (mg : Str → Option Value) (fa : Addr) (h : Heap) : Prop :=
  ∃ (cs : List (Addr × Addr)) (F : FX) (fd : FuncData), (∀ p ∈ cs, PySem.W.CodeHd h p.1 p.2 ∧ h.get? p.2 = some { cls := .none, data := .fields #[] }) ∧ (∀ p ∈ cs, K.lookup p.2 = none) ∧
    (∀ ns : List Int, ns.length ≤ n → (∀ z ∈ ns, Builtin.Int.intBits z ≤ 1048576) → F [.list (ns.map .int)] = some (.ok (.bool true))) ∧ (∀ us : List Value, us.length = 1 → bindArgs fd ⟨us, []⟩ = pure ((["script"] : List Str).zip us)) ∧
    ∀ base : Heap, K.In base → base.Ns mainGlobals mg → (∀ p ∈ cs, LamX.TabB base mg p.1 p.2) → FnG l.prog w K mg base (L2.CX l.prog w) k fa fd ["script"] (spF ⟨K, mg, cs.map (·.2)⟩ 1 F)
theorem walk_zG {l : PySem.W.OpenLaw} {n k : Nat} {q : Program} {loose : List Str} {XP : (Str → Option Value) → Heap → Prop} {YP : World → Heap → Prop} {d : DefRec} {K : Params → PySem.W.Frag}
    (hn : l.most = some n) (hn2 : n ≤ sizeLine) (hdf : d.params.defaults = []) (hr : Room k callerA) (hnm : d.name = "law") (hY : ∀ (w : World) (h : Heap), YP w h → (K w.params).In h)
    (F : ∀ (w : World) (mean : ExcName → Option Value) (mg mb : Str → Option Value) (fa : Addr) (h : Heap), YP w h → (K w.params).In h → h.Ns mainGlobals mg → Top q (PySem.W.looseW q loose) mean mg mb h → mg "law" = some (.ref fa) → ZAtG l w (K w.params) k n mg fa h) :
    PySem.W.WalkO q loose XP YP l.row.toRowW d [] (fun f vs => PySem.call f vs) := by
  refine Att.attach_callB hn hdf fun w s₀ s₁ mg mb fa o pm cd doc a vs ns G Y ho hd hcd hmg hobj hints hlen hbits hg => ?_
  have KX := hY w _ Y
  rw [hnm] at hmg
  obtain ⟨cs, F', fd, hT, nT, hF, hb, hD⟩ := F w _ mg mb fa _ Y KX G.T.g G.T hmg
  refine law_callG (CC := L2.CX l.prog w) (x := "script") KX G.T.g G.T.b G.T.builtins G.T.nolimit hg (fun p hp => (hT p hp).2) nT (fun p hp => (hT p hp).1) G.T.bmain hobj hints (Nat.le_trans hlen hn2) hr hD (fun s u => .of_eq (hb [u] rfl)) (fun H hH hS => ?_) fun H e s' hc => ?_
  · refine ⟨rfl, [.list (ns.map .int)], .ok (.bool true), [], (fun _ h => nomatch h), fun P hP => ?_, ?_, hF ns hlen hbits, fun v H' _ p => rp_bool p⟩
    · obtain ⟨p, hp, rfl⟩ := List.mem_map.mp hP
      exact ⟨#[], hH p hp, by first | exact trivial | exact .nil | (show PySem.TriplesOk []; constructor) | decide⟩
    · rw [mask_nil]
      exact rpl_cons (mk_lst hS (rpl_ints ns)) rpl_nil
  · obtain ⟨_, _, _, _, _, _, _, _, _, _, _, _, z⟩ := hc
    exact z

/-! ## repr of lists and tuples, where no display is being shown -/
def gReprD : PyData → Option PyData
  | .list ds => if (PyData.list ds).canLay0 && (PyData.list ds).showable && !(PyData.list ds).hasDict && decide ((PyData.list ds).depth < 60) && decide ((PyData.list ds).shown.length ≤ big) then some (.str (PyData.list ds).shown) else none
  | .tuple ds => if (PyData.tuple ds).canLay0 && (PyData.tuple ds).showable && !(PyData.tuple ds).hasDict && decide ((PyData.tuple ds).depth < 60) && decide ((PyData.tuple ds).shown.length ≤ big) then some (.str (PyData.tuple ds).shown) else none
  | d => gRepr d
def rReprD (K : PySem.W.Frag) : List V → Hp → VK → Prop := fun xs H Q => ∃ a d, xs = [.ref a] ∧ Dp K H (.ref a) d ∧ d.showable = true ∧ d.hasDict = false ∧ d.depth < 60 ∧ d.shown.length ≤ big ∧ Q (.str d.shown) H
section
variable {X : Cx} {C : Cf} {W : WX} {m : Md} {k : Nat} {a : Expr} {ta : TE} {fa : PX} {pos p : Pos}
theorem call_reprD (hgd : X.A.guards = some []) (hu : X.A.units + 200 < cLine) : CallR X (.builtin "repr") (rReprD X.K) := by
  intro pins s σ H xs us Q I r h
  obtain ⟨a, d, rfl, hd, h1, h2, h3, h4, q⟩ := h
  obtain ⟨u, rfl, rfl⟩ := vals1 r
  obtain ⟨as, rr⟩ := Dp.reads I d (.ref a) (.ref a) hd rfl
  exact repr_of_reads' rr h1 (fun z => by rw [h2] at z; cases z) hgd (by omega) (fun b o e => e) (fun h' u tk keep => ⟨.str d.shown, H, I.kept keep, ⟨u, rfl⟩, q⟩) (big_ok h4)
theorem rh_reprD {K : PySem.W.Frag} : RH K m (fun xs H Q => rReprD K xs H Q ∨ rRepr xs H Q) gReprD := by
  intro d z hz O Ox x H mu px Q q
  unfold gReprD at hz
  split at hz
  · rename_i ds
    split at hz
    · rename_i hc
      simp only [Bool.and_eq_true, decide_eq_true_eq] at hc
      obtain ⟨⟨⟨⟨c1, c2⟩, c3⟩, c4⟩, c5⟩ := hc
      cases hz
      obtain ⟨p, xs, rfl, h1, h2⟩ := px
      exact .inl ⟨p, _, rfl, rp_dp _ _ c1 (mk_lst h1 (RpL.sm hm_le _ _ h2)), c2, by simpa using c3, c4, c5, q _ H (.refl _ _) mk_str⟩
    · cases hz
  · rename_i ds
    split at hz
    · rename_i hc
      simp only [Bool.and_eq_true, decide_eq_true_eq] at hc
      obtain ⟨⟨⟨⟨c1, c2⟩, c3⟩, c4⟩, c5⟩ := hc
      cases hz
      obtain ⟨p, xs, rfl, h1, h2⟩ := rp_tup px
      exact .inl ⟨p, _, rfl, rp_dp _ _ c1 (mk_tup (hm_sqT h1) (RpL.sm hm_le _ _ h2)), c2, by simpa using c3, c4, c5, q _ H (.refl _ _) mk_str⟩
    · cases hz
  · exact .inr (rh_repr d z hz O Ox x H mu px Q q)
theorem pp_reprG (o : On X C k) (hgd : X.A.guards = some []) (hg : Gl X "repr") (hm : X.mg "repr" = none) (ha : PH X C W m a ta fa) (hs : starEach [a] X.env = (false, eval a X.env) :: starEach [] X.env := by rfl) : PP X C W m (.Call (.Name "repr" p) [a] [] pos) (tCB (fun xs H Q => rReprD C.K xs H Q ∨ rRepr xs H Q) (tCons ta tNil)) (b1 fa gReprD) := pp_b1 (hs := hs) (by rw [← o.K]; exact (call_reprD hgd o.un).or call_reprS) rh_reprD boot_repr' hg hm ha
end
end Z

set_option Elab.async false
set_option linter.all false
set_option maxRecDepth 100000
set_option maxHeartbeats 4000000
namespace Z
open PySem PySem.Spec PyProof.Rows L2

/-! ## enumerate(u), whatever is walked -/
theorem new_enum {u : Value} {it : Obj} {P : Shared → Prop} (hu : ∀ (prog : Program) (w : World) (A : Around) (E : Value → Shared → Prop) (s : Shared) (Q : Value → Shared → Prop), P s → Q (.ref s.heap.objs.size) { heap := s.heap.push it, gens := s.gens, drawn := s.drawn, toks := s.toks, os := s.os } → wpAny (model prog w) A (pyIter u) Q E s) :
    Meets (Builtin.«enumerate.__new__» ⟨[.type "enumerate", u], []⟩) fun _ R s => P s ∧ R (.ok (.ret (.ref (s.heap.push it).objs.size))) { heap := (s.heap.push it).push { cls := .type "enumerate", data := .fields #[.none, .bool false, .ref s.heap.objs.size, rawInt 0, .none, .none] }, gens := s.gens, drawn := s.drawn, toks := s.toks, os := s.os } := by
  refine Meets.of_wp fun prog w A R s h => ?_
  obtain ⟨hp, g, d, tk, os⟩ := s
  obtain ⟨hP, h⟩ := h
  unfold Builtin.«enumerate.__new__»
  have fin : ∀ (R' : Value → Prop), wpAny (model prog w) A.in1 (do
      let it ← pyIter u
      let r ← Builtin.SmallTypes.newRecord (Value.type "enumerate") (Builtin.SmallTypes.ownedTupleFields ++ [it, rawInt 0, Value.none, Value.none])
      ret r) (fun fin s' => ∃ v, fin = Fin.done (Flow.ret v) ∧ R (Except.ok (Flow.ret v)) s') (fun e s' => R (Except.error e) s') { heap := hp, gens := g, drawn := d, toks := tk, os := os } := fun _ => by
    refine wpAny_bind (hu _ _ _ _ _ _ hP (wpAny_bind ?_))
    unfold Builtin.SmallTypes.newRecord
    dsimp only
    unfold newObj
    apply wpAny_ite_false
    · rfl
    refine wpAny_bind (wpAny_alloc' ?_)
    refine wpAny_pure (wpAny_pure ?_)
    exact ⟨_, rfl, h⟩
  refine wpAny_bind (wpAny_bind (wpAny_pure (wpAny_ite_false rfl (wpAny_bind (wpAny_of_eq sub_enumerate (wpAny_ite_false rfl (wpAny_pure (wpAny_ite_true rfl (wpAny_bind (wpAny_bind (wpAny_stack_any fun stk => wpAny_pure ?_)))))))))))
  have fin2 : ∀ (f : Value × Option Value → Sem Fin), True := fun _ => trivial
  split
  · rename_i c tail kw snd tl hd
    rcases Bool.eq_false_or_eq_true (c == Value.type "enumerate") with hcc | hcc
    · rw [hcc]
      refine wpAny_ite_true rfl (wpAny_bind (wpAny_pure ?_))
      exact fin fun _ => True
    · rw [hcc]
      refine wpAny_ite_false rfl (wpAny_bind (wpAny_of_eq (show _ = (pure (u, none) : Sem (Value × Option Value)) from rfl) ?_))
      exact fin fun _ => True
  · refine wpAny_ite_false rfl (wpAny_bind (wpAny_of_eq (show _ = (pure (u, none) : Sem (Value × Option Value)) from rfl) ?_))
    exact fin fun _ => True
theorem call_enumT {prog : Program} {w : World} {A : Around} {E : Value → Shared → Prop} {s : Shared} {l : Addr} {items : Array Value} {Q : Value → Shared → Prop} (hL : s.heap.IsTuple l items)
    (h : ∀ h' : Heap, IsEnum h' (s.heap.objs.size + 1) s.heap.objs.size 0 .none → h'.IsTupleIter s.heap.objs.size l 0 → h'.objs.size = s.heap.objs.size + 2 → (∀ (b : Addr) (o : Obj), s.heap.get? b = some o → h'.get? b = some o) →
      Q (.ref (s.heap.objs.size + 1)) { heap := h', gens := s.gens, drawn := s.drawn, toks := s.toks, os := s.os }) :
    wpAny (model prog w) A (call (.type "enumerate") [.ref l]) Q E s := by
  refine callType_new PySem.F.called_enumerate (by decide) (PySem.F.typeCall_enumerate_1 (.ref l)) (PySem.F.newCall_enumerate_1 (.ref l)) (fun obj => PySem.F.args_object_init_2 obj (.ref l)) PySem.F.entry_enumerate_new
    (new_enum (u := .ref l) (it := { cls := .type "tuple_iterator", data := .fields #[.ref l, .int 0 0] }) (P := fun s => s.heap.IsTuple l items) fun prog w A E s Q hp hq => wpAny_pyIter_tuple hp hq) ⟨hL, ?_⟩
  have hz := Heap.size_push s.heap { cls := .type "tuple_iterator", data := .fields #[.ref l, .int 0 0] }
  show Shared.TypeIs _ (.ref (s.heap.push _).objs.size) "enumerate" ∧ Q (.ref (s.heap.push _).objs.size) _
  rw [hz]
  have he := Heap.get?_push_size (s.heap.push { cls := .type "tuple_iterator", data := .fields #[.ref l, .int 0 0] }) (o := { cls := .type "enumerate", data := .fields #[.none, .bool false, .ref s.heap.objs.size, rawInt 0, .none, .none] }) rfl
  rw [hz] at he
  refine ⟨⟨_, he, rfl⟩, h _ he ⟨_, Heap.get?_push_of_some _ (Heap.get?_push_size s.heap rfl), rfl, rfl⟩ ?_ fun b o x => Heap.get?_push_of_some _ (Heap.get?_push_of_some _ x)⟩
  rw [Heap.size_push, hz]
theorem drawsT {prog : Program} {w : World} {A : Around} (hh : A.handled = none) (it l : Addr) (hne : l ≠ it) (items : Array Value) : Draws prog w A it [it, l] items.size (fun i v => items[i]? = some v) fun i h => h.IsTupleIter it l i ∧ h.IsTuple l items where
  live := fun i h st => by obtain ⟨⟨o, ho, _⟩, _⟩ := st; exact ⟨o, ho⟩
  frame := fun i h h' st hk => by
    obtain ⟨⟨o, ho, r⟩, ⟨p, hp, r2⟩⟩ := st
    exact ⟨⟨o, hk it (by simp) o ho, r⟩, ⟨p, hk l (by simp) p hp, r2⟩⟩
  item := fun i s Q E hi st hQ => RZ.nextOf_tuple_item st.1 st.2 (by simp [hi] : items[i]? = some items[i]) fun h' hit' hs' => hQ items[i] h' s.toks (by simp [hi]) ⟨hit', by
    obtain ⟨p, hp, r2⟩ := st.2
    exact ⟨p, by rw [hs'.2 l hne]; exact hp, r2⟩⟩ hs'
  done := fun s Q E st hE => RZ.nextOf_tuple_end hh st.1 st.2 (by simp) hE
theorem drawsT0 {prog : Program} {w : World} {A : Around} (hh : A.handled = none) (it l : Addr) (hne : l ≠ it) (items : Array Value) {i : Nat} (hi : items[i]? = none) : Draws prog w A it [it, l] 0 (fun _ _ => True) fun _ h => h.IsTupleIter it l i ∧ h.IsTuple l items where
  live := fun i h st => by obtain ⟨⟨o, ho, _⟩, _⟩ := st; exact ⟨o, ho⟩
  frame := fun i h h' st hk => by
    obtain ⟨⟨o, ho, r⟩, ⟨p, hp, r2⟩⟩ := st
    exact ⟨⟨o, hk it (by simp) o ho, r⟩, ⟨p, hk l (by simp) p hp, r2⟩⟩
  item := fun i s Q E hi st hQ => absurd hi (Nat.not_lt_zero _)
  done := fun s Q E st hE => RZ.nextOf_tuple_end hh st.1 st.2 hi hE
/-- enumerate of a tuple -/
def IteT (K : PySem.W.Frag) (a : Addr) : It where
  go := fun i H => ∃ xs x, SqT K H a xs ∧ xs[i]? = some x
  yld := fun i H v H' => ∃ T x, v = .ref T ∧ H T = none ∧ H' = upd H T (.tup [.int i, x]) ∧ ∀ xs, SqT K H a xs → xs[i]? = some x
  stop := fun i H => ∃ xs, SqT K H a xs ∧ xs.length ≤ i
theorem turn_enumT {P : Program} {w : World} {K : PySem.W.Frag} {elts : List Expr} {kk : Nat} {tpos : Pos} (a e it : Addr) : Turn P w K (.Tuple elts kk tpos) (IteT K a) [e, it] e fun i h => (∃ old, IsEnum h e it i old) ∧ h.IsTupleIter it a i ∧ e ≠ it where
  mem := by simp
  obj := fun i h st b hb => by
    obtain ⟨⟨old, he⟩, ⟨o, ho, c1, c2⟩, hne⟩ := st
    rcases List.mem_cons.mp hb with z | z
    · rw [z]; exact ⟨_, he, fun v q => by cases q⟩
    · rw [List.mem_singleton.mp z]; exact ⟨o, ho, fun v q => by rw [c2] at q; cases q⟩
  keep := fun i h h' st k => by
    obtain ⟨⟨old, he⟩, ⟨o, ho, r⟩, hne⟩ := st
    exact ⟨⟨old, k e (by simp) _ he⟩, ⟨o, k it (by simp) o ho, r⟩, hne⟩
  item := fun X hP hw hK hc i pins s σ H E I hf st hg => by
    subst hP hw hK
    obtain ⟨⟨old, he⟩, hit, hne⟩ := st
    obtain ⟨xs, x, hq, hx⟩ := hg
    obtain ⟨its, rv, p, hz⟩ := I.tuple hq
    obtain ⟨u, hu, ru⟩ := rv.get hx
    have hel := Heap.lt_size he
    have hil : it < s.heap.objs.size := by obtain ⟨o, ho, _⟩ := hit; exact Heap.lt_size ho
    have hea : e ≠ a := fun z => by
      obtain ⟨o, ho, c, _⟩ := p
      rw [← z, he] at ho
      cases ho
      exact absurd (Value.type.inj c) (by decide)
    have hai : a ≠ it := fun z => by
      obtain ⟨o, ho, c, _⟩ := p
      obtain ⟨o2, ho2, c2, _⟩ := hit
      rw [z, ho2] at ho
      cases ho
      rw [c2] at c
      exact absurd (Value.type.inj c) (by decide)
    have lt : i < its.toArray.size := by
      rw [List.size_toArray]
      exact (List.getElem?_eq_some_iff.mp hu).1
    refine wpAny_pyNext_enum_itemD (drawsT (A := X.A.in1) (I.ok.hd hc) it a hai its.toArray) he ⟨hit, p⟩ lt hne (by simp [hne, hea]) fun y h' tk hy ho hSt hT hsz hk => ?_
    have hy : its[i]? = some y := by simpa using hy
    rw [hu] at hy
    cases hy
    refine ⟨_, rfl, wpAny_letOwnedTupleGo_enum ho fun h'' he' sb => ?_⟩
    have hT2 : h''.get? s.heap.objs.size = some { cls := .type "tuple", data := .seq #[.int i tk, u] } := (sb.2 s.heap.objs.size (Nat.ne_of_gt hel)).trans hT
    have new : ObjOk X.prog X.w (upd H s.heap.objs.size (.tup [.int i, x])) h'' s.heap.objs.size (.tup [.int i, x]) := ⟨show 2 ≤ sizeLine by decide, [.int i tk, u], .cons ⟨tk, rfl⟩ (.cons ru .nil), _, hT2, rfl, 0, rfl⟩
    have I1 := I.turnedNew (t' := tk + 1) (ch := [e, it]) (fun b ob hb q => (sb.2 b fun z => hb (by simp [z])).trans (hk b ob (fun z => hb (by simp [z])) (fun z => hb (by simp [z])) q)) hf (Nat.le_refl _) new
    refine ⟨.ref s.heap.objs.size, upd H s.heap.objs.size (.tup [.int i, x]), I1, rfl, ⟨s.heap.objs.size, x, rfl, I.hok.fresh (Nat.le_refl _), rfl, fun ys hy => by rw [I.tuple_inj hy hq]; exact hx⟩, ⟨⟨u, by
      rw [show ((i + 1 : Nat) : Int) = (i : Int) + 1 by omega]
      exact he'⟩, ?_, hne⟩, fun b hb => ?_⟩
    · obtain ⟨⟨o, ho2, r⟩, _⟩ := hSt
      exact ⟨o, (sb.2 it (Ne.symm hne)).trans ho2, r⟩
    · have : b < s.heap.objs.size := by
        rcases List.mem_cons.mp hb with z | z
        · rw [z]; exact hel
        · rw [List.mem_singleton.mp z]; exact hil
      rw [upd_ne (Nat.ne_of_lt this)]
      exact (hf b hb).1
  done := fun X hP hw hK hc i pins s σ H E I hf st hg => by
    subst hP hw hK
    obtain ⟨⟨old, he⟩, hit, hne⟩ := st
    obtain ⟨xs, hq, hx⟩ := hg
    obtain ⟨its, rv, p, hz⟩ := I.tuple hq
    have hai : a ≠ it := fun z => by
      obtain ⟨o, ho, c, _⟩ := p
      obtain ⟨o2, ho2, c2, _⟩ := hit
      rw [z, ho2] at ho
      cases ho
      rw [c2] at c
      exact absurd (Value.type.inj c) (by decide)
    obtain ⟨f0, f1, f2, f3, f4, f5⟩ := hf it (by simp)
    have hl := rv.length
    exact wpAny_pyNext_enum_endD (drawsT0 (A := X.A.in1) (I.ok.hd hc) it a hai its.toArray (i := i) (by simp; omega)) he ⟨hit, p⟩ fun h' eb => ⟨rfl, I.turned (fun b o hb q => eb b o hb q) f0 f1 f3 f4 f5⟩
  self := fun A i s Q E st h => by
    obtain ⟨⟨old, he⟩, _⟩ := st
    exact wpAny_pyIter_enum he h
/-- enumerate of a list or a tuple -/
abbrev iEnumX (K : PySem.W.Frag) (ta : TA) : TI := fun σ H R => ta σ H fun vs H1 => ∃ a, vs = [.ref a] ∧ ((∃ xs, SqL K H1 a xs ∧ R (Ite K a) H1) ∨ ∃ xs, SqT K H1 a xs ∧ R (IteT K a) H1)
section
variable {X : Cx} {C : Cf} {W : WX} {m : Md} {k : Nat} {a b : Expr} {ta tb : TE} {fa fb : PX} {p pos tpos : Pos} {elts : List Expr} {kk : Nat} {t : TA}
theorem pi_enumX' (hg : Gl X "enumerate") (hm : X.mg "enumerate" = none) (ha : PA X [a] t) (hs : starEach [a] X.env = (false, eval a X.env) :: starEach [] X.env := by rfl) : PI X (.Tuple elts kk tpos) (.Call (.Name "enumerate" p) [a] [] pos) (iEnumX X.K t) := ⟨fun pins s σ H R I h => by
  refine Call_ (ld_blt I hg hm boot_enumerate (PyProof.Rows.callWith_type1 (thn (ha.run pos pins s σ H _ I h) fun us s1 x => ?_) hs rfl) (by decide) (by decide)) rfl
  obtain ⟨vs, H1, I1, r1, l, rfl, q1⟩ := x
  obtain ⟨u, rfl, rfl⟩ := vals1 r1
  rcases q1 with ⟨xs, hq, q⟩ | ⟨xs, hq, q⟩
  · obtain ⟨its, rv, p', hz⟩ := I1.list hq
    refine call_enumerate_list p'.isList fun h' he hit hsz hk => wpAny_pyIter_enum he ?_
    have I2 := I1.kept (t' := s1.toks) hk
    refine ⟨s1.heap.objs.size + 1, [s1.heap.objs.size + 1, s1.heap.objs.size], _, Ite X.K l, H1, rfl, I2, turn_enum l (s1.heap.objs.size + 1) s1.heap.objs.size, ⟨⟨.none, he⟩, hit, Nat.succ_ne_self _⟩, fun b hb => ?_, q⟩
    have hle : s1.heap.objs.size ≤ b := by
      rcases List.mem_cons.mp hb with z | z
      · rw [z]; exact Nat.le_succ _
      · rw [List.mem_singleton.mp z]; exact Nat.le_refl _
    exact I1.fpOk hle (I1.hok.fresh hle)
  · obtain ⟨its, rv, p', hz⟩ := I1.tuple hq
    refine call_enumT p' fun h' he hit hsz hk => wpAny_pyIter_enum he ?_
    have I2 := I1.kept (t' := s1.toks) hk
    refine ⟨s1.heap.objs.size + 1, [s1.heap.objs.size + 1, s1.heap.objs.size], _, IteT X.K l, H1, rfl, I2, turn_enumT l (s1.heap.objs.size + 1) s1.heap.objs.size, ⟨⟨.none, he⟩, hit, Nat.succ_ne_self _⟩, fun b hb => ?_, q⟩
    have hle : s1.heap.objs.size ≤ b := by
      rcases List.mem_cons.mp hb with z | z
      · rw [z]; exact Nat.le_succ _
      · rw [List.mem_singleton.mp z]; exact Nat.le_refl _
    exact I1.fpOk hle (I1.hok.fresh hle)⟩
end
/-- the pairs of numbers and items -/
def enD : Nat → List PyData → List PyData
  | _, [] => []
  | i, d :: ds => .tuple [.int (i : Int), d] :: enD (i + 1) ds
theorem enD_len : ∀ (ds : List PyData) (i : Nat), (enD i ds).length = ds.length
  | [], _ => rfl
  | d :: ds, i => by rw [enD, List.length_cons, List.length_cons, enD_len ds]
theorem enD_get : ∀ {ds : List PyData} {i j : Nat} {d : PyData}, (enD i ds)[j]? = some d → ∃ e, ds[j]? = some e ∧ d = .tuple [.int ((i + j : Nat) : Int), e]
  | [], _, _, _, h => by simp [enD] at h
  | e :: ds, i, 0, d, h => ⟨e, rfl, by simpa [enD] using h.symm⟩
  | e :: ds, i, j + 1, d, h => by
    obtain ⟨f, h1, h2⟩ := enD_get (ds := ds) (i := i + 1) (j := j) (d := d) (by simpa [enD] using h)
    exact ⟨f, by simpa using h1, by rw [h2, show i + 1 + j = i + (j + 1) by omega]⟩
section
variable {K : PySem.W.Frag} {Hm : Hp}
theorem en_new {xs : List V} {ds : List PyData} (h1 : RpL K Hm ds xs) {i : Nat} {d : PyData} {H H' : Hp} {x : V} {T : Addr} (hd : (enD 0 ds)[i]? = some d) (hT : H T = none) (hH : H' = upd H T (.tup [.int i, x])) (hx : xs[i]? = some x) {O : List Addr} (s : Sm Hm (mask O H)) (mu : MutAll O H) : Stp O H H' ∧ Rp K (mask O H') d (.ref T) := by
  obtain ⟨e, h2, rfl⟩ := enD_get hd
  obtain ⟨v, q1, r1⟩ := rpl_get h1 h2
  rw [hx] at q1
  cases q1
  subst hH
  refine ⟨.new mu hT, ?_⟩
  rw [Nat.zero_add]
  exact new_tup (K := K) (m := .st) (O := O) (Ox := []) (H := H) (ds := [.int i, e]) (xs := [.int i, x]) (p := T) ⟨mu, fun _ z => nomatch z⟩ hT (rpl_cons mk_int (rpl_cons (r1.sm s) rpl_nil))
theorem wlk_enL {a : Addr} {xs : List V} {ds : List PyData} (h : SqL K Hm a xs) (r : RpL K Hm ds xs) : Wlk K Hm (Ite K a) (enD 0 ds) := by
  refine ⟨fun H => SqL K H a xs, fun i H x H' => ∃ T y, x = .ref T ∧ H T = none ∧ H' = upd H T (.tup [.int i, y]) ∧ xs[i]? = some y, ⟨fun i H hi g => ?_, fun H g => ⟨xs, g, ?_⟩, fun i H x H' hi g y => ?_⟩, fun H s => sqL_sm s h, fun i d H x H' hd y O s mu => ?_⟩
  · rw [enD_len, rpl_len r] at hi
    exact ⟨xs, xs[i], g, by simp [hi]⟩
  · rw [enD_len, rpl_len r]; exact Nat.le_refl _
  · obtain ⟨T, z, e1, e2, e3, e4⟩ := y
    exact ⟨T, z, e1, e2, e3, e4 xs g⟩
  · obtain ⟨T, z, rfl, e2, e3, e4⟩ := y
    exact en_new r hd e2 e3 e4 s mu
theorem wlk_enT {a : Addr} {xs : List V} {ds : List PyData} (h : SqT K Hm a xs) (r : RpL K Hm ds xs) : Wlk K Hm (IteT K a) (enD 0 ds) := by
  refine ⟨fun H => SqT K H a xs, fun i H x H' => ∃ T y, x = .ref T ∧ H T = none ∧ H' = upd H T (.tup [.int i, y]) ∧ xs[i]? = some y, ⟨fun i H hi g => ?_, fun H g => ⟨xs, g, ?_⟩, fun i H x H' hi g y => ?_⟩, fun H s => sqT_sm s h, fun i d H x H' hd y O s mu => ?_⟩
  · rw [enD_len, rpl_len r] at hi
    exact ⟨xs, xs[i], g, by simp [hi]⟩
  · rw [enD_len, rpl_len r]; exact Nat.le_refl _
  · obtain ⟨T, z, e1, e2, e3, e4⟩ := y
    exact ⟨T, z, e1, e2, e3, e4 xs g⟩
  · obtain ⟨T, z, rfl, e2, e3, e4⟩ := y
    exact en_new r hd e2 e3 e4 s mu
end
def enX (f : PX) : PIx := fun Γ => match f Γ with
  | some (.ok (.list xs)) => some (.ok (enD 0 xs))
  | some (.ok (.tuple xs)) => some (.ok (enD 0 xs))
  | some (.error e) => some (.error e)
  | _ => none
section
variable {X : Cx} {C : Cf} {W : WX} {k : Nat} {a : Expr} {ta : TE} {fa : PX} {p pos tpos : Pos} {elts : List Expr} {kk : Nat}
theorem pi_enumX (o : On X C k) (hg : Gl X "enumerate") (hm : X.mg "enumerate" = none) (ha : PP X C W .st a ta fa) (hs : starEach [a] X.env = (false, eval a X.env) :: starEach [] X.env := by rfl) :
    PIt X C W (.Tuple elts kk tpos) (.Call (.Name "enumerate" p) [a] [] pos) (iEnumX C.K (tCons ta tNil)) (enX fa) := ⟨by rw [← o.K]; exact pi_enumX' hg hm (pa_cons ha.pe pa_nil hs) hs, fun Γ r hr H0 Ox σ H E R q => by
  show ta σ H fun x H1 => ∃ a, [x] = [V.ref a] ∧ ((∃ xs, SqL C.K H1 a xs ∧ R (Ite C.K a) H1) ∨ ∃ xs, SqT C.K H1 a xs ∧ R (IteT C.K a) H1)
  unfold enX at hr
  split at hr
  · rename_i xs h1
    cases hr
    refine ha.ev Γ _ h1 H0 Ox σ H E _ fun v H1 s1 p1 => ?_
    obtain ⟨l, vs, rfl, k1, k2⟩ := rp_lst p1
    exact ⟨l, rfl, .inl ⟨vs, sqL_sm (mask_le _ _) k1, q _ H1 s1 (wlk_enL k1 k2)⟩⟩
  · rename_i xs h1
    cases hr
    refine ha.ev Γ _ h1 H0 Ox σ H E _ fun v H1 s1 p1 => ?_
    obtain ⟨l, vs, rfl, k1, k2⟩ := rp_tup p1
    exact ⟨l, rfl, .inr ⟨vs, sqT_sm (mask_le _ _) k1, q _ H1 s1 (wlk_enT k1 k2)⟩⟩
  · rename_i x h1
    cases hr
    exact ha.ev Γ _ h1 H0 Ox σ H E _ q
  · cases hr⟩
end
end Z

set_option Elab.async false
set_option linter.all false
set_option maxRecDepth 100000
set_option maxHeartbeats 4000000
namespace Z
open PySem PySem.Spec PyProof.Rows L2

section
variable {X : Cx} {C : Cf} {W : WX} {m : Md} {k : Nat} {a b e : Expr} {ta tb te : TE} {fa fb f : PX} {pos p p2 : Pos}
/-! ## a new list times a number -/
theorem pf_rep (o : On X C k) (ha : PF X C W m a ta fa) (hb : PP X C W .rd b tb fb) : PF X C W m (.BinOp a .Mult b pos) (tOp rRep ta tb) (b2 fa fb gRepF) := by
  refine ⟨pe_op op_rep ha.pe hb.pe, fun Γ r hr H0 Ox σ H E Q q => ?_⟩
  show ta σ H fun x H1 => tb σ H1 fun y H2 => rRep x y H2 Q
  unfold b2 at hr
  cases h1 : fa Γ with
  | none => rw [h1] at hr; cases hr
  | some r1 =>
    rw [h1] at hr
    cases r1 with
    | error x =>
      cases hr
      exact ha.ev Γ _ h1 H0 Ox σ H E _ q
    | ok d =>
      refine ha.ev Γ _ h1 H0 Ox σ H E _ fun l ob H1 s1 hl c => ?_
      have mu1 := s1.ows E.ows
      have s2 := s1.trans (.new (o := ob) mu1.mu hl)
      have E2 := E.step s2
      simp only at hr
      cases h2 : fb Γ with
      | none => rw [h2] at hr; cases hr
      | some r2 =>
        rw [h2] at hr
        cases r2 with
        | error x =>
          cases hr
          exact hb.ev Γ _ h2 H0 Ox σ _ E2 _ fun H' s => q H' (s2.trans s)
        | ok dn =>
          refine hb.ev Γ _ h2 H0 Ox σ _ E2 _ fun v H3 s3 p3 => ?_
          simp only at hr
          cases h3 : gRepF d dn with
          | none => rw [h3] at hr; cases hr
          | some z =>
            rw [h3] at hr
            cases hr
            unfold gRepF at h3
            split at h3
            · rename_i ds n
              split at h3
              · rename_i hc
                cases h3
                obtain ⟨xs, rfl, rp⟩ := c
                have nl := not_own mu1.mu hl
                have hH3 : H3 l = some (.lst xs) := by
                  have := s3.1.1 l (.lst xs) (by rw [mask_out nl]; exact upd_same) (fun ps z => by cases z)
                  exact (mask_some this).1
                have rp3 : RpL C.K (hm m (ow C.fl Ox σ Γ) Ox H3) ds xs := RpL.sm ((hm_sm (Stp.new mu1.mu hl) mu1).trans (hm_sm s3 E2.ows)) _ _ rp
                refine ⟨l, n, xs, rfl, rp_int p3, hH3, hc.1, hc.2.1, big_ok (by rw [← rpl_len rp]; exact hc.2.2), fun p hp => ?_⟩
                exact q p _ H3 (s2.trans s3) hp ⟨_, rfl, rpl_rep rp3 _⟩
              · cases h3
            · cases h3

/-! ## isinstance(x, T), T a built-in type -/
def tyN : PyData → Option String
  | .none => some "NoneType"
  | .bool _ => some "bool"
  | .int _ => some "int"
  | .str _ => some "str"
  | .list _ => some "list"
  | .tuple _ => some "tuple"
  | .dict _ => none
def gIsT (T : String) (d : PyData) : Option PyData := (tyN d).bind fun t => (kitB t T).map .bool
theorem ty_of {K : PySem.W.Frag} {H : Hp} {d : PyData} {x : V} {t : String} (h : tyN d = some t) (r : Rp K H d x) : TyX K H x (.type t) := by
  cases d with
  | none => cases h; rw [rp_none r]; exact .base .non
  | bool b => cases h; rw [rp_bool r]; exact .base (.bl _)
  | int i => cases h; rw [rp_int r]; exact .base (.int _)
  | str s => cases h; rw [rp_str r]; exact .base (.str _)
  | list ds =>
    cases h
    obtain ⟨a, xs, rfl, h1, _⟩ := rp_lst r
    rcases h1 with (h1 | ⟨o, h1⟩) | ⟨o, its, n, h1, h2, _⟩
    · exact .base (.lst h1)
    · exact .base (.frz h1)
    · exact .kList h1 h2
  | tuple ds =>
    cases h
    obtain ⟨a, xs, rfl, h1, _⟩ := rp_tup r
    rcases h1 with (h1 | ⟨o, h1⟩) | ⟨o, its, n, h1, h2, _⟩
    · exact .base (.tup h1)
    · exact .fTuple h1
    · exact .kTuple h1 h2
  | dict _ => cases h
def rIsT (K : PySem.W.Frag) (T : String) : List V → Hp → VK → Prop := fun xs H Q => ∃ x c, xs = [x, c] ∧ (c = .ty T → rIsi K xs H Q) ∧ c = .ty T
theorem pp_isT {T : String} {y : Str} (o : On X C k) (hg : Gl X "isinstance") (hm : X.mg "isinstance" = none) (ha : PH X C W m e te f) (hgy : Gl X y) (hmy : X.mg y = none) (hvy : bootBuiltins y = some (.type T)) (hny : y ≠ "__name__" := by decide) (hdy : (y == ("__debug__" : Str)) = false := by decide)
    (hs1 : starEach [e, Expr.Name y p2] X.env = (false, eval e X.env) :: starEach [Expr.Name y p2] X.env := by rfl) (hs2 : starEach [Expr.Name y p2] X.env = (false, eval (.Name y p2) X.env) :: starEach [] X.env := by rfl) (hpl : (backTo pos (starEach [Expr.Name y p2] X.env)).any (·.1) = false := by rfl) :
    PP X C W m (.Call (.Name "isinstance" p) [e, .Name y p2] [] pos) (tCB (rIsi X.K) (tCons te (tCons (tC (.ty T)) tNil))) (b1 f (gIsT T)) := by
  refine ⟨pe_callB call_isi hg hm boot_isinst (pa_cons ha.pe (pa_cons (pe_bltn hgy hmy hvy rfl hny hdy) pa_nil hs2) hs1) (by decide) (by decide) hs1 hpl, fun Γ r' hr' H0 Ox σ H E Q q => ?_⟩
  show te σ H fun x H1 => rIsi X.K [x, .ty T] H1 Q
  refine evH_one ha.ev E hr' (fun d z hz er x H2 s E2 px => ?_) fun x ex => by subst ex; exact q
  subst er
  unfold gIsT at hz
  cases h1 : tyN d with
  | none => rw [h1] at hz; cases hz
  | some t =>
    rw [h1] at hz
    simp only [Option.bind_some] at hz
    cases h2 : kitB t T with
    | none => rw [h2] at hz; cases hz
    | some bb =>
      rw [h2] at hz
      cases hz
      have rp : Rp X.K H2 d x := by
        rw [o.K]
        cases d with
        | list ds =>
          obtain ⟨l, xs, rfl, k1, k2⟩ := px
          exact mk_lst k1 (RpL.sm hm_le _ _ k2)
        | none => exact px.sm hm_le
        | bool _ => exact px.sm hm_le
        | int _ => exact px.sm hm_le
        | str _ => exact px.sm hm_le
        | tuple _ => exact px.sm hm_le
        | dict _ => cases h1
      exact ⟨x, .ty T, .type t, .type T, bb, rfl, .ty T, ty_of h1 rp, kit_ty h2, q _ H2 s mk_bool⟩
end
end Z

set_option Elab.async false
set_option linter.all false
set_option maxRecDepth 100000
set_option maxHeartbeats 4000000
namespace Z
open PySem PySem.Spec PyProof.Rows L2

/-! ## zip of two, whatever is walked -/
structure ZA (z TI TO i1 i2 : Addr) (f1 f2 : List Addr) : Prop where
  zTI : z ≠ TI
  zTO : z ≠ TO
  zi1 : z ≠ i1
  zi2 : z ≠ i2
  IO : TI ≠ TO
  Ii1 : TI ≠ i1
  Ii2 : TI ≠ i2
  Oi1 : TO ≠ i1
  Oi2 : TO ≠ i2
  i12 : i1 ≠ i2
  zf1 : z ∉ f1
  zf2 : z ∉ f2
  Of1 : TO ∉ f1
  Of2 : TO ∉ f2
  i1f2 : i1 ∉ f2
  i2f1 : i2 ∉ f1
theorem st_keep {prog : Program} {w : World} {A : Around} {it : Addr} {fp : List Addr} {n : Nat} {P : Nat → Value → Prop} {St : Nat → Heap → Prop} (D : Draws prog w A it fp n P St) {i : Nat} {h h' : Heap} {a : Addr} (st : St i h) (sb : Heap.SameBut a h h') (na : a ∉ fp) : St i h' := D.frame i h h' st fun b hb o ho => by rw [sb.2 b (fun e => na (by rw [← e]; exact hb))]; exact ho
theorem gt_keep {h h' : Heap} {a b : Addr} {o : Obj} (sb : Heap.SameBut a h h') (ne : b ≠ a) (e : h.get? b = some o) : h'.get? b = some o := by rw [sb.2 b ne]; exact e
theorem zip_next {prog : Program} {w : World} {A : Around} {E : Value → Shared → Prop} {s : Shared} {z TI TO i1 i2 : Addr} {f1 f2 : List Addr} {n1 n2 k1 k2 : Nat} {P1 P2 : Nat → Value → Prop} {S1 S2 : Nat → Heap → Prop} {a b : Value} {Q : Value → Shared → Prop}
    (D1 : Draws prog w A i1 f1 n1 P1 S1) (D2 : Draws prog w A i2 f2 n2 P2 S2) (D : ZA z TI TO i1 i2 f1 f2) (hz : IsZip s.heap z TI TO .none) (hTI : IsPair s.heap TI (.ref i1) (.ref i2)) (hTO : IsPair s.heap TO a b) (h1 : S1 k1 s.heap) (h2 : S2 k2 s.heap) (l1 : k1 < n1) (l2 : k2 < n2)
    (hQ : ∀ (x y : Value) (h' : Heap) (tk : Nat), P1 k1 x → P2 k2 y → IsZip h' z TI TO (rawInt s.heap.objs.size) → IsPair h' TO x y → S1 (k1 + 1) h' → S2 (k2 + 1) h' → IsPair h' s.heap.objs.size x y → h'.objs.size = s.heap.objs.size + 1 → (∀ (c : Addr) (o : Obj), c ≠ z → c ≠ TO → c ≠ i1 → c ≠ i2 → s.heap.get? c = some o → h'.get? c = some o) →
      Q (.ref s.heap.objs.size) { heap := h', gens := s.gens, drawn := s.drawn, toks := tk, os := s.os }) :
    wpAny (model prog w) A (Builtin.«zip.__next__» ⟨[.ref z], []⟩) (fun fin s' => ∃ v, fin = Fin.done (Flow.ret v) ∧ Q v s') E s := by
  show wpAny _ _ (field (.ref z) 2 >>= _) _ _ _
  refine wpAny_bind (wpAny_field hz rfl (x := .bool false) rfl ?_)
  show wpAny _ _ (field (.ref z) 3 >>= _) _ _ _
  refine wpAny_bind (wpAny_field hz rfl (x := .ref TI) rfl ?_)
  refine wpAny_bind (wpAny_seqItems hTI rfl ?_)
  refine wpAny_bind (m := Builtin.SmallTypes.ownedTupleIsFree (.ref z)) ?_
  unfold Builtin.SmallTypes.ownedTupleIsFree
  refine wpAny_bind (wpAny_field hz rfl (x := .none) rfl (wpAny_pure ?_))
  simp only [if_true]
  refine wpAny_bind (wpAny_rule (wpAny_bind (wpAny_field hz rfl (x := .ref TO) rfl (wpAny_bind (wpAny_setField_rec hz (by simp) fun g1 z1 b1 => ?_)))))
  refine wpAny_bind ?_
  simp only [List.zipIdx_cons, List.zipIdx_nil, List.forIn_cons, List.forIn_nil]
  refine wpAny_bind (wpAny_bind (wpAny_onRaise ?_))
  refine wpAny_bind (m := Builtin.SmallTypes.nextOf (.ref i1)) (D1.item k1 _ _ _ l1 (st_keep D1 h1 b1 D.zf1) fun x g2 t2 px st1 b2 => wpAny_pure ?_)
  have o2 : IsPair g2 TO a b := gt_keep b2 D.Oi1 (gt_keep b1 D.zTO.symm hTO)
  refine wpAny_bind (wpAny_seqItems o2 rfl (wpAny_bind (wpAny_updateSeq_pair o2 fun g3 o3 b3 => wpAny_bind (wpAny_letGo (wpAny_pure ?_)))))
  replace o3 : IsPair g3 TO x b := o3
  refine wpAny_bind (wpAny_bind (wpAny_onRaise ?_))
  refine wpAny_bind (m := Builtin.SmallTypes.nextOf (.ref i2)) (D2.item k2 _ _ _ l2 (st_keep D2 (st_keep D2 (st_keep D2 h2 b1 D.zf2) b2 D.i1f2) b3 D.Of2) fun y g4 t4 py st2 b4 => wpAny_pure ?_)
  have o4 : IsPair g4 TO x b := gt_keep b4 D.Oi2 o3
  refine wpAny_bind (wpAny_seqItems o4 rfl (wpAny_bind (wpAny_updateSeq_pair o4 fun g5 o5 b5 => wpAny_bind (wpAny_letGo (wpAny_pure (wpAny_pure ?_))))))
  replace o5 : IsPair g5 TO x y := o5
  refine wpAny_bind (wpAny_seqItems o5 rfl (wpAny_bind (wpAny_newTuple ?_)))
  have hsz : g5.objs.size = s.heap.objs.size := by rw [b5.1, b4.1, b3.1, b2.1, b1.1]
  have z5 : IsZip g5 z TI TO .ellipsis := gt_keep b5 D.zTO (gt_keep b4 D.zi2 (gt_keep b3 D.zTO (gt_keep b2 D.zi1 z1)))
  have zl : z < g5.objs.size := Heap.lt_size z5
  have s15 : S1 (k1 + 1) g5 := st_keep D1 (st_keep D1 (st_keep D1 st1 b3 D.Of1) b4 D.i2f1) b5 D.Of1
  have s25 : S2 (k2 + 1) g5 := st_keep D2 st2 b5 D.Of2
  show wpAny _ _ (Builtin.SmallTypes.ownedTupleHandOut (.ref z) (.ref g5.objs.size) >>= _) _ _ _
  refine wpAny_bind ?_
  unfold Builtin.SmallTypes.ownedTupleHandOut
  have z6 : IsZip (g5.push { cls := .type "tuple", data := .seq #[x, y] }) z TI TO .ellipsis := Heap.get?_push_of_some _ z5
  refine wpAny_bind (wpAny_setField_rec z6 (by simp) fun g7 z7 b7 => ?_)
  refine wpAny_setField_rec z7 (by simp) fun g8 z8 b8 => ?_
  replace z8 : IsZip g8 z TI TO (rawInt g5.objs.size) := z8
  have up : ∀ c o, c ≠ z → g5.get? c = some o → g8.get? c = some o := fun c o c1 e => gt_keep b8 c1 (gt_keep b7 c1 (Heap.get?_push_of_some _ e))
  have t8 : IsPair g8 g5.objs.size x y := gt_keep b8 (Nat.ne_of_gt zl) (gt_keep b7 (Nat.ne_of_gt zl) (Heap.get?_push_size _ rfl))
  have n8 : g8.objs.size = g5.objs.size + 1 := by rw [b8.1, b7.1, Heap.size_push]
  have a1 := D1.frame _ _ _ s15 fun c hc o e => up c o (fun q => D.zf1 (q ▸ hc)) e
  have a2 := D2.frame _ _ _ s25 fun c hc o e => up c o (fun q => D.zf2 (q ▸ hc)) e
  rw [hsz] at z8 t8 n8
  refine wpAny_pure ⟨_, rfl, ?_⟩
  show Q (.ref g5.objs.size) _
  rw [hsz]
  exact hQ x y g8 _ px py z8 (up _ _ D.zTO.symm o5) a1 a2 t8 n8 fun c o c1 c2 c3 c4 e => up c o c1 (gt_keep b5 c2 (gt_keep b4 c4 (gt_keep b3 c2 (gt_keep b2 c3 (gt_keep b1 c1 e)))))
/-- the iterator stops -/
def Stops (prog : Program) (w : World) (A : Around) (it : Addr) (St : Heap → Prop) : Prop := ∀ (s : Shared) (Q : Value → Shared → Prop) (E : Value → Shared → Prop), St s.heap → (∀ h' e, Heap.ExtBut it s.heap h' → (∃ o, h'.get? e = some o ∧ o.cls = .type "StopIteration") → E (.ref e) { heap := h', gens := s.gens, drawn := s.drawn, toks := s.toks, os := s.os }) → wpAny (model prog w) A (Builtin.SmallTypes.nextOf (.ref it)) Q E s
theorem zip_end {prog : Program} {w : World} {A : Around} {E : Value → Shared → Prop} {s : Shared} {z TI TO i1 i2 : Addr} {f1 f2 : List Addr} {n1 n2 k1 k2 : Nat} {P1 P2 : Nat → Value → Prop} {S1 S2 : Nat → Heap → Prop} {a b : Value} {Q : Fin → Shared → Prop}
    (D1 : Draws prog w A i1 f1 n1 P1 S1) (D2 : Draws prog w A i2 f2 n2 P2 S2) (D : ZA z TI TO i1 i2 f1 f2) (hz : IsZip s.heap z TI TO .none) (hTI : IsPair s.heap TI (.ref i1) (.ref i2)) (hTO : IsPair s.heap TO a b) (h1 : S1 k1 s.heap) (h2 : S2 k2 s.heap) (hend : Stops prog w A i1 (S1 k1) ∨ k1 < n1 ∧ Stops prog w A i2 (S2 k2))
    (hE : ∀ (h' : Heap) (tk : Nat) (e : Addr), (∀ (c : Addr) (o : Obj), c ≠ z → c ≠ TO → c ≠ i1 → c ≠ i2 → s.heap.get? c = some o → h'.get? c = some o) → (∃ o, h'.get? e = some o ∧ o.cls = .type "StopIteration") → E (.ref e) { heap := h', gens := s.gens, drawn := s.drawn, toks := tk, os := s.os }) :
    wpAny (model prog w) A (Builtin.«zip.__next__» ⟨[.ref z], []⟩) Q E s := by
  show wpAny _ _ (field (.ref z) 2 >>= _) _ _ _
  refine wpAny_bind (wpAny_field hz rfl (x := .bool false) rfl ?_)
  show wpAny _ _ (field (.ref z) 3 >>= _) _ _ _
  refine wpAny_bind (wpAny_field hz rfl (x := .ref TI) rfl ?_)
  refine wpAny_bind (wpAny_seqItems hTI rfl ?_)
  refine wpAny_bind (m := Builtin.SmallTypes.ownedTupleIsFree (.ref z)) ?_
  unfold Builtin.SmallTypes.ownedTupleIsFree
  refine wpAny_bind (wpAny_field hz rfl (x := .none) rfl (wpAny_pure ?_))
  simp only [if_true]
  refine wpAny_bind (wpAny_rule (wpAny_bind (wpAny_field hz rfl (x := .ref TO) rfl (wpAny_bind (wpAny_setField_rec hz (by simp) fun g1 z1 b1 => ?_)))))
  replace z1 : IsZip g1 z TI TO .ellipsis := z1
  refine wpAny_bind ?_
  simp only [List.zipIdx_cons, List.zipIdx_nil, List.forIn_cons, List.forIn_nil]
  refine wpAny_bind (wpAny_bind (wpAny_onRaise ?_))
  show wpAny _ _ (Builtin.SmallTypes.nextOf (.ref i1) >>= _) _ _ _
  rcases hend with d1 | ⟨l1, d2⟩
  · refine wpAny_bind (d1 _ _ _ (st_keep D1 h1 b1 D.zf1) fun g2 e b2 he => ?_)
    obtain ⟨oe, hoe, hce⟩ := he
    have z2 : IsZip g2 z TI TO .ellipsis := b2 _ _ D.zi1 z1
    have hez : e ≠ z := fun x => by subst x; rw [z2] at hoe; cases hoe; simp at hce
    exact wpAny_setField_rec z2 (by simp) fun g3 _ b3 => hE g3 _ e (fun c o c1 _ c3 _ x => gt_keep b3 c1 (b2 _ _ c3 (gt_keep b1 c1 x))) ⟨oe, gt_keep b3 hez hoe, hce⟩
  · refine wpAny_bind (D1.item k1 _ _ _ l1 (st_keep D1 h1 b1 D.zf1) fun x g2 t2 px st1 b2 => wpAny_pure ?_)
    have o2 : IsPair g2 TO a b := gt_keep b2 D.Oi1 (gt_keep b1 D.zTO.symm hTO)
    refine wpAny_bind (wpAny_seqItems o2 rfl (wpAny_bind (wpAny_updateSeq_pair o2 fun g3 o3 b3 => wpAny_bind (wpAny_letGo (wpAny_pure ?_)))))
    refine wpAny_bind (wpAny_bind (wpAny_onRaise ?_))
    show wpAny _ _ (Builtin.SmallTypes.nextOf (.ref i2) >>= _) _ _ _
    refine wpAny_bind (d2 _ _ _ (st_keep D2 (st_keep D2 (st_keep D2 h2 b1 D.zf2) b2 D.i1f2) b3 D.Of2) fun g4 e b4 he => ?_)
    obtain ⟨oe, hoe, hce⟩ := he
    have z4 : IsZip g4 z TI TO .ellipsis := b4 _ _ D.zi2 (gt_keep b3 D.zTO (gt_keep b2 D.zi1 z1))
    have hez : e ≠ z := fun x => by subst x; rw [z4] at hoe; cases hoe; simp at hce
    exact wpAny_setField_rec z4 (by simp) fun g5 _ b5 => hE g5 _ e (fun c o c1 c2 c3 c4 x => gt_keep b5 c1 (b4 _ _ c4 (gt_keep b3 c2 (gt_keep b2 c3 (gt_keep b1 c1 x))))) ⟨oe, gt_keep b5 hez hoe, hce⟩
/-! ## lists and tuples as they come: true is a tuple -/
def IsItK (k : Bool) (h : Heap) (it l : Addr) (i : Nat) : Prop := match k with | true => h.IsTupleIter it l i | false => h.IsListIter it l i
def IsSqK (k : Bool) (h : Heap) (l : Addr) (items : Array Value) : Prop := match k with | true => h.IsTuple l items | false => h.IsList l items
def itN : Bool → String | true => "tuple_iterator" | false => "list_iterator"
def itO (k : Bool) (l : Addr) : Obj := { cls := .type (itN k), data := .fields #[.ref l, .int 0 0] }
theorem isItK_at {k : Bool} {h h' : Heap} {it l : Addr} {i : Nat} (x : IsItK k h it l i) (e : ∀ o, h.get? it = some o → h'.get? it = some o) : IsItK k h' it l i := by
  cases k
  · exact Heap.IsListIter.at x e
  · exact Heap.IsTupleIter.at x e
theorem isItK_get {k : Bool} {h : Heap} {it l : Addr} {i : Nat} (x : IsItK k h it l i) : ∃ o, h.get? it = some o ∧ ∀ v, o.data ≠ .cell v := by
  cases k
  · obtain ⟨o, ho, _, d⟩ := (x : h.IsListIter it l i)
    exact ⟨o, ho, fun v q => by rw [d] at q; cases q⟩
  · obtain ⟨o, ho, _, d⟩ := (x : h.IsTupleIter it l i)
    exact ⟨o, ho, fun v q => by rw [d] at q; cases q⟩
theorem isSqK_push {k : Bool} {h : Heap} {l : Addr} {items : Array Value} (x : IsSqK k h l items) (o : Obj) : IsSqK k (h.push o) l items := by
  cases k
  · exact Heap.IsList.push x o
  · exact Heap.IsTuple.push x o
theorem isSqK_lt {k : Bool} {h : Heap} {l : Addr} {items : Array Value} (x : IsSqK k h l items) : l < h.objs.size := by
  cases k
  · obtain ⟨o, ho, _⟩ := (x : h.IsList l items) ; exact Heap.lt_size ho
  · obtain ⟨o, ho, _⟩ := (x : h.IsTuple l items) ; exact Heap.lt_size ho
theorem pyIterK {prog : Program} {w : World} {A : Around} {E : Value → Shared → Prop} {s : Shared} {k : Bool} {l : Addr} {items : Array Value} {Q : Value → Shared → Prop} (hl : IsSqK k s.heap l items)
    (hQ : Q (.ref s.heap.objs.size) { s with heap := s.heap.push (itO k l) }) : wpAny (model prog w) A (pyIter (.ref l)) Q E s := by
  cases k
  · exact wpAny_pyIter_list hl hQ
  · exact wpAny_pyIter_tuple hl hQ
theorem drawsK {prog : Program} {w : World} {A : Around} (hh : A.handled = none) (k : Bool) (it l : Addr) (hne : l ≠ it) (items : Array Value) : Draws prog w A it [it, l] items.size (fun i v => items[i]? = some v) fun i h => IsItK k h it l i ∧ IsSqK k h l items := by
  cases k
  · exact Draws.list hh it l hne items
  · exact drawsT hh it l hne items
theorem stopsK {prog : Program} {w : World} {A : Around} (hh : A.handled = none) (k : Bool) (it l : Addr) (items : Array Value) {i : Nat} (hi : items[i]? = none) : Stops prog w A it fun h => IsItK k h it l i ∧ IsSqK k h l items := by
  intro s Q E st hE
  cases k
  · exact wpAny_nextOf_list_end hh st.1 st.2 hi hE
  · exact RZ.nextOf_tuple_end hh st.1 st.2 hi hE
abbrev zk1 (k : Bool) (h : Heap) (l1 : Addr) : Heap := h.push (itO k l1)
abbrev zk2 (k k' : Bool) (h : Heap) (l1 l2 : Addr) : Heap := (zk1 k h l1).push (itO k' l2)
abbrev zk3 (k k' : Bool) (h : Heap) (l1 l2 : Addr) : Heap := (zk2 k k' h l1 l2).push { cls := .type "tuple", data := .seq #[.ref h.objs.size, .ref (zk1 k h l1).objs.size] }
abbrev zk4 (k k' : Bool) (h : Heap) (l1 l2 : Addr) : Heap := (zk3 k k' h l1 l2).push { cls := .type "tuple", data := .seq #[.none, .none] }
abbrev zk5 (k k' : Bool) (h : Heap) (l1 l2 : Addr) : Heap := (zk4 k k' h l1 l2).push { cls := .type "zip", data := .fields #[.none, .bool false, .bool false, .ref (zk2 k k' h l1 l2).objs.size, .ref (zk3 k k' h l1 l2).objs.size] }
theorem meets_zk (k k' : Bool) (l1 l2 : Addr) (xs ys : Array Value) : Meets (Builtin.«zip.__new__» ⟨[.type "zip", .ref l1, .ref l2], []⟩) (fun _ R s => IsSqK k s.heap l1 xs ∧ IsSqK k' s.heap l2 ys ∧ R (.ok (.ret (.ref (zk4 k k' s.heap l1 l2).objs.size))) { s with heap := zk5 k k' s.heap l1 l2 }) :=
  .of_wp fun prog w A R s h => by
    obtain ⟨hp, g, d, tk, os⟩ := s ; obtain ⟨hl1, hl2, h⟩ := h
    have hsub := sub_zip
    have hL1 : IsSqK k (Shared.heap ⟨hp, g, d, tk, os⟩) l1 xs := hl1
    have hL2 : IsSqK k' (Shared.heap ⟨hp.push (itO k l1), g, d, tk, os⟩) l2 ys := isSqK_push hl2 _
    wp_walk using pyIterK hL1, pyIterK hL2
    exact ⟨_, rfl, h⟩
theorem itO_it {k : Bool} {h : Heap} {it l : Addr} (e : h.get? it = some (itO k l)) : IsItK k h it l 0 := by
  cases k
  · exact ⟨_, e, rfl, rfl⟩
  · exact ⟨_, e, rfl, rfl⟩
theorem call_zk {prog : Program} {w : World} {A : Around} {E : Value → Shared → Prop} {s : Shared} {k k' : Bool} {l1 l2 : Addr} {xs ys : Array Value} {Q : Value → Shared → Prop} (hl1 : IsSqK k s.heap l1 xs) (hl2 : IsSqK k' s.heap l2 ys)
    (h : ∀ h', IsZip h' (s.heap.objs.size + 4) (s.heap.objs.size + 2) (s.heap.objs.size + 3) .none → IsPair h' (s.heap.objs.size + 2) (.ref s.heap.objs.size) (.ref (s.heap.objs.size + 1)) →
      IsPair h' (s.heap.objs.size + 3) .none .none → IsItK k h' s.heap.objs.size l1 0 → IsItK k' h' (s.heap.objs.size + 1) l2 0 → (∀ c o, s.heap.get? c = some o → h'.get? c = some o) → Q (.ref (s.heap.objs.size + 4)) { s with heap := h' }) :
    wpAny (model prog w) A (call (.type "zip") [.ref l1, .ref l2]) Q E s := by
  refine callType_new PySem.F.called_zip (by decide) (PySem.F.typeCall_zip_2 _ _) (PySem.F.newCall_zip_2 _ _) (fun obj => PySem.F.args_object_init_3 obj _ _) PySem.F.entry_zip_new (meets_zk k k' l1 l2 xs ys) ⟨hl1, hl2, ?_⟩
  have n1 : (zk1 k s.heap l1).objs.size = s.heap.objs.size + 1 := Heap.size_push ..
  have n2 : (zk2 k k' s.heap l1 l2).objs.size = s.heap.objs.size + 2 := by rw [Heap.size_push, n1]
  have n3 : (zk3 k k' s.heap l1 l2).objs.size = s.heap.objs.size + 3 := by rw [Heap.size_push, n2]
  have n4 : (zk4 k k' s.heap l1 l2).objs.size = s.heap.objs.size + 4 := by rw [Heap.size_push, n3]
  have p5 : (zk5 k k' s.heap l1 l2).get? (zk4 k k' s.heap l1 l2).objs.size = some _ := Heap.get?_push_size _ rfl
  have p4 : (zk5 k k' s.heap l1 l2).get? (zk3 k k' s.heap l1 l2).objs.size = some _ := Heap.get?_push_of_some _ (Heap.get?_push_size _ rfl)
  have p3 : (zk5 k k' s.heap l1 l2).get? (zk2 k k' s.heap l1 l2).objs.size = some _ := Heap.get?_push_of_some _ (Heap.get?_push_of_some _ (Heap.get?_push_size _ rfl))
  have p2 : (zk5 k k' s.heap l1 l2).get? (zk1 k s.heap l1).objs.size = some _ := Heap.get?_push_of_some _ (Heap.get?_push_of_some _ (Heap.get?_push_of_some _ (Heap.get?_push_size _ rfl)))
  have p1 : (zk5 k k' s.heap l1 l2).get? s.heap.objs.size = some _ := Heap.get?_push_of_some _ (Heap.get?_push_of_some _ (Heap.get?_push_of_some _ (Heap.get?_push_of_some _ (Heap.get?_push_size _ rfl))))
  show Shared.TypeIs _ _ _ ∧ _
  rw [n2, n3, n4] at p5
  rw [n1, n2] at p3
  rw [n3] at p4
  rw [n1] at p2
  rw [n4]
  exact ⟨⟨_, p5, rfl⟩, h _ p5 p3 p4 (itO_it p1) (itO_it p2) fun c o x => Heap.get?_push_of_some _ (Heap.get?_push_of_some _ (Heap.get?_push_of_some _ (Heap.get?_push_of_some _ (Heap.get?_push_of_some _ x))))⟩
/-- z's five objects and the two that are walked -/
theorem nm2 {x a b : Nat} (h1 : x ≠ a) (h2 : x ≠ b) : x ∉ [a, b] := fun h => by
  rcases List.mem_cons.mp h with e | e
  · exact h1 e
  · exact h2 (List.mem_singleton.mp e)
theorem za_new (n a b : Nat) (ha : a < n) (hb : b < n) : ZA (n + 4) (n + 2) (n + 3) n (n + 1) [n, a] [n + 1, b] where
  zTI := (by omega : (n + 4 : Nat) ≠ n + 2)
  zTO := (by omega : (n + 4 : Nat) ≠ n + 3)
  zi1 := (by omega : (n + 4 : Nat) ≠ n)
  zi2 := (by omega : (n + 4 : Nat) ≠ n + 1)
  IO := (by omega : (n + 2 : Nat) ≠ n + 3)
  Ii1 := (by omega : (n + 2 : Nat) ≠ n)
  Ii2 := (by omega : (n + 2 : Nat) ≠ n + 1)
  Oi1 := (by omega : (n + 3 : Nat) ≠ n)
  Oi2 := (by omega : (n + 3 : Nat) ≠ n + 1)
  i12 := (by omega : (n : Nat) ≠ n + 1)
  zf1 := nm2 (by omega) (by omega)
  zf2 := nm2 (by omega) (by omega)
  Of1 := nm2 (by omega) (by omega)
  Of2 := nm2 (by omega) (by omega)
  i1f2 := nm2 (by omega) (by omega)
  i2f1 := nm2 (by omega) (by omega)
/-! ### the walk -/
def SqK (k : Bool) (K : PySem.W.Frag) (H : Hp) (a : Addr) (xs : List V) : Prop := match k with | true => SqT K H a xs | false => SqL K H a xs
theorem sqK_sm {k : Bool} {K : PySem.W.Frag} {H H' : Hp} {a : Addr} {xs : List V} (s : Sm H H') (h : SqK k K H a xs) : SqK k K H' a xs := by
  cases k
  · exact sqL_sm s h
  · exact sqT_sm s h
def ItzK (k k' : Bool) (K : PySem.W.Frag) (a b : Addr) : It where
  go := fun i H => ∃ (xs ys : List V) (x y : V), SqK k K H a xs ∧ SqK k' K H b ys ∧ xs[i]? = some x ∧ ys[i]? = some y
  yld := fun i H v H' => ∃ T x y, v = .ref T ∧ H T = none ∧ H' = upd H T (.tup [x, y]) ∧ (∀ xs, SqK k K H a xs → xs[i]? = some x) ∧ ∀ ys, SqK k' K H b ys → ys[i]? = some y
  stop := fun i H => ∃ xs ys : List V, SqK k K H a xs ∧ SqK k' K H b ys ∧ (xs.length ≤ i ∨ ys.length ≤ i)
theorem inv_sqK {X : Cx} {pins : List (Addr × Obj)} {σ : L2.St} {H : Hp} {s : Shared} {k : Bool} {a : Addr} {xs : List V} (I : Inv X pins σ H s) (h : SqK k X.K H a xs) : ∃ its : List Value, Vals xs its ∧ IsSqK k s.heap a its.toArray := by
  cases k
  · obtain ⟨its, r, p, _⟩ := I.list h ; exact ⟨its, r, p.isList⟩
  · obtain ⟨its, r, p, _⟩ := I.tuple h ; exact ⟨its, r, p⟩
theorem sqK_inj {X : Cx} {pins : List (Addr × Obj)} {σ : L2.St} {H : Hp} {s : Shared} {k : Bool} {a : Addr} {xs ys : List V} (I : Inv X pins σ H s) (h : SqK k X.K H a xs) (h' : SqK k X.K H a ys) : xs = ys := by
  cases k
  · exact I.list_inj h h'
  · exact I.tuple_inj h h'
theorem pyNext_zk_item {prog : Program} {w : World} {A : Around} {E : Value → Shared → Prop} {s : Shared} {z TI TO i1 i2 : Addr} {f1 f2 : List Addr} {n1 n2 k1 k2 : Nat} {P1 P2 : Nat → Value → Prop} {S1 S2 : Nat → Heap → Prop} {a b : Value} {Q : Option Value → Shared → Prop}
    (D1 : Draws prog w A.in1 i1 f1 n1 P1 S1) (D2 : Draws prog w A.in1 i2 f2 n2 P2 S2) (D : ZA z TI TO i1 i2 f1 f2) (hz : IsZip s.heap z TI TO .none) (hTI : IsPair s.heap TI (.ref i1) (.ref i2)) (hTO : IsPair s.heap TO a b) (h1 : S1 k1 s.heap) (h2 : S2 k2 s.heap) (l1 : k1 < n1) (l2 : k2 < n2)
    (hQ : ∀ (x y : Value) (h' : Heap) (tk : Nat), P1 k1 x → P2 k2 y → IsZip h' z TI TO (rawInt s.heap.objs.size) → IsPair h' TO x y → S1 (k1 + 1) h' → S2 (k2 + 1) h' → IsPair h' s.heap.objs.size x y → h'.objs.size = s.heap.objs.size + 1 → (∀ (c : Addr) (o : Obj), c ≠ z → c ≠ TO → c ≠ i1 → c ≠ i2 → s.heap.get? c = some o → h'.get? c = some o) →
      Q (some (.ref s.heap.objs.size)) { heap := h', gens := s.gens, drawn := s.drawn, toks := tk, os := s.os }) : wpAny (model prog w) A (pyNext (.ref z)) Q E s := by
  have hT : s.TypeIs (.ref z) "zip" := ⟨_, hz, rfl⟩
  unfold pyNext
  exact wpAny_bind (wpAny_attempt (wpAny_callSpecial?_slot (name := Str.ofString "__next__") hT PySem.F.slot_zip_next
    (wpAny_call_entry PySem.F.slot_zip_next hT PySem.F.entry_zip_next (zip_next D1 D2 D hz hTI hTO h1 h2 l1 l2 fun x y h' tk p1 p2 a1 a2 a3 a4 a5 a6 a7 => wpAny_pure (hQ x y h' tk p1 p2 a1 a2 a3 a4 a5 a6 a7)) (PySem.F.args_zip_next_1 _))))
theorem pyNext_zk_end {prog : Program} {w : World} {A : Around} {E : Value → Shared → Prop} {s : Shared} {z TI TO i1 i2 : Addr} {f1 f2 : List Addr} {n1 n2 k1 k2 : Nat} {P1 P2 : Nat → Value → Prop} {S1 S2 : Nat → Heap → Prop} {a b : Value} {Q : Option Value → Shared → Prop}
    (D1 : Draws prog w A.in1 i1 f1 n1 P1 S1) (D2 : Draws prog w A.in1 i2 f2 n2 P2 S2) (D : ZA z TI TO i1 i2 f1 f2) (hz : IsZip s.heap z TI TO .none) (hTI : IsPair s.heap TI (.ref i1) (.ref i2)) (hTO : IsPair s.heap TO a b) (h1 : S1 k1 s.heap) (h2 : S2 k2 s.heap) (hend : Stops prog w A.in1 i1 (S1 k1) ∨ k1 < n1 ∧ Stops prog w A.in1 i2 (S2 k2))
    (hQ : ∀ (h' : Heap) (tk : Nat), (∀ (c : Addr) (o : Obj), c ≠ z → c ≠ TO → c ≠ i1 → c ≠ i2 → s.heap.get? c = some o → h'.get? c = some o) → Q none { heap := h', gens := s.gens, drawn := s.drawn, toks := tk, os := s.os }) : wpAny (model prog w) A (pyNext (.ref z)) Q E s := by
  have hT : s.TypeIs (.ref z) "zip" := ⟨_, hz, rfl⟩
  unfold pyNext
  refine wpAny_bind (wpAny_attempt (wpAny_callSpecial?_slot (name := Str.ofString "__next__") hT PySem.F.slot_zip_next
    (wpAny_call_entry PySem.F.slot_zip_next hT PySem.F.entry_zip_next (zip_end D1 D2 D hz hTI hTO h1 h2 hend fun h' tk e hk he => ?_) (PySem.F.args_zip_next_1 _))))
  obtain ⟨o, ho, hc⟩ := he
  refine wpAny_bind (wpAny_isInstance (T := "StopIteration") (b := true) ⟨o, ho, hc⟩ isSubtype_stop ?_)
  exact wpAny_pure (hQ _ _ hk)
theorem turn_zk {P : Program} {w : World} {K : PySem.W.Frag} {elts : List Expr} {kk : Nat} {tpos : Pos} {k k' : Bool} {a b z TI TO i1 i2 : Addr} (D : ZA z TI TO i1 i2 [i1, a] [i2, b]) (ha : a ≠ i1) (hb : b ≠ i2) :
    Turn P w K (.Tuple elts kk tpos) (ItzK k k' K a b) [z, TI, TO, i1, i2] z (fun i h => IsZip h z TI TO .none ∧ IsPair h TI (.ref i1) (.ref i2) ∧ (∃ x y, IsPair h TO x y) ∧ IsItK k h i1 a i ∧ IsItK k' h i2 b i) where
  mem := by simp
  obj := fun i h st c hc => by
    obtain ⟨hz, hTI, ⟨x, y, hTO⟩, h1, h2⟩ := st
    have e' : c = z ∨ c = TI ∨ c = TO ∨ c = i1 ∨ c = i2 := by simpa using hc
    rcases e' with q | q | q | q | q
    · rw [q]; exact ⟨_, hz, fun v q => nomatch q⟩
    · rw [q]; exact ⟨_, hTI, fun v q => nomatch q⟩
    · rw [q]; exact ⟨_, hTO, fun v q => nomatch q⟩
    · rw [q]; exact isItK_get h1
    · rw [q]; exact isItK_get h2
  keep := fun i h h' st kp => by
    obtain ⟨hz, hTI, ⟨x, y, hTO⟩, h1, h2⟩ := st
    exact ⟨kp z (by simp) _ hz, kp TI (by simp) _ hTI, ⟨x, y, kp TO (by simp) _ hTO⟩, isItK_at h1 fun o q => kp i1 (by simp) o q, isItK_at h2 fun o q => kp i2 (by simp) o q⟩
  item := by
    intro X hP hw hK hc i pins s σ H E I hf st hg
    subst hP hw hK
    obtain ⟨hz, hTI, ⟨x0, y0, hTO⟩, h1, h2⟩ := st
    obtain ⟨xs, ys, x, y, hqx, hqy, hx, hy⟩ := hg
    obtain ⟨its, rv, p⟩ := inv_sqK I hqx
    obtain ⟨its2, rv2, p2⟩ := inv_sqK I hqy
    obtain ⟨u, hu, ru⟩ := rv.get hx
    obtain ⟨u2, hu2, ru2⟩ := rv2.get hy
    have hzl : z < s.heap.objs.size := Heap.lt_size hz
    have lt1 : i < its.toArray.size := by rw [List.size_toArray]; exact (List.getElem?_eq_some_iff.mp hu).1
    have lt2 : i < its2.toArray.size := by rw [List.size_toArray]; exact (List.getElem?_eq_some_iff.mp hu2).1
    refine pyNext_zk_item (drawsK (A := X.A.in1) (I.ok.hd hc) k i1 a ha its.toArray) (drawsK (A := X.A.in1) (I.ok.hd hc) k' i2 b hb its2.toArray) D hz hTI hTO ⟨h1, p⟩ ⟨h2, p2⟩ lt1 lt2 fun x' y' h' tk px py z' TO' h1' h2' hT hsz hk => ?_
    have px : its[i]? = some x' := by simpa using px
    have py : its2[i]? = some y' := by simpa using py
    rw [hu] at px ; cases px
    rw [hu2] at py ; cases py
    refine ⟨_, rfl, wpAny_letOwnedTupleGo_zip z' fun h'' z'' sb => ?_⟩
    have hT2 : h''.get? s.heap.objs.size = some { cls := .type "tuple", data := .seq #[u, u2] } := (sb.2 _ (Nat.ne_of_gt hzl)).trans hT
    have new : ObjOk X.prog X.w (upd H s.heap.objs.size (.tup [x, y])) h'' s.heap.objs.size (.tup [x, y]) :=
      ⟨by show 2 ≤ sizeLine; decide, [u, u2], .cons ru (.cons ru2 .nil), ⟨_, hT2, rfl, _, rfl⟩⟩
    have I1 := I.turnedNew (t' := tk) (ch := [z, TI, TO, i1, i2]) (fun c o hb q => (sb.2 c (fun q' => hb (by simp [q']))).trans (hk c o (fun q' => hb (by simp [q'])) (fun q' => hb (by simp [q'])) (fun q' => hb (by simp [q'])) (fun q' => hb (by simp [q'])) q)) hf (Nat.le_refl _) new
    refine ⟨.ref s.heap.objs.size, _, I1, rfl, ⟨_, x, y, rfl, I.hok.fresh (Nat.le_refl _), rfl, fun l hl => by rw [sqK_inj I hl hqx]; exact hx, fun l hl => by rw [sqK_inj I hl hqy]; exact hy⟩, ⟨z'', ?_, ⟨u, u2, ?_⟩, ?_, ?_⟩, fun c hcm => ?_⟩
    · exact (sb.2 _ D.zTI.symm).trans (hk _ _ D.zTI.symm D.IO D.Ii1 D.Ii2 hTI)
    · exact (sb.2 _ D.zTO.symm).trans TO'
    · exact isItK_at h1'.1 fun o q => (sb.2 _ D.zi1.symm).trans q
    · exact isItK_at h2'.1 fun o q => (sb.2 _ D.zi2.symm).trans q
    · have hlt : c < s.heap.objs.size := by
        have e' : c = z ∨ c = TI ∨ c = TO ∨ c = i1 ∨ c = i2 := by simpa using hcm
        rcases e' with q | q | q | q | q
        · rw [q]; exact hzl
        · rw [q]; exact Heap.lt_size hTI
        · rw [q]; exact Heap.lt_size hTO
        · rw [q]; obtain ⟨_, e1, _⟩ := isItK_get h1; exact Heap.lt_size e1
        · rw [q]; obtain ⟨_, e2, _⟩ := isItK_get h2; exact Heap.lt_size e2
      rw [upd_ne (Nat.ne_of_lt hlt)]
      exact (hf c hcm).1
  done := by
    intro X hP hw hK hc i pins s σ H E I hf st hg
    subst hP hw hK
    obtain ⟨hz, hTI, ⟨x0, y0, hTO⟩, h1, h2⟩ := st
    obtain ⟨xs, ys, hqx, hqy, hend⟩ := hg
    obtain ⟨its, rv, p⟩ := inv_sqK I hqx
    obtain ⟨its2, rv2, p2⟩ := inv_sqK I hqy
    have l1 := rv.length
    have l2 := rv2.length
    refine pyNext_zk_end (drawsK (A := X.A.in1) (I.ok.hd hc) k i1 a ha its.toArray) (drawsK (A := X.A.in1) (I.ok.hd hc) k' i2 b hb its2.toArray) D hz hTI hTO ⟨h1, p⟩ ⟨h2, p2⟩ ?_ fun h' tk hk => ⟨rfl, I.turnedL (ch := [z, TI, TO, i1, i2]) (fun c o hb q =>
      hk c o (fun q' => hb (by simp [q'])) (fun q' => hb (by simp [q'])) (fun q' => hb (by simp [q'])) (fun q' => hb (by simp [q'])) q) hf⟩
    by_cases q : its.length ≤ i
    · exact .inl (stopsK (A := X.A.in1) (I.ok.hd hc) k i1 a its.toArray (by simpa using q))
    · refine .inr ⟨by simpa using q, stopsK (A := X.A.in1) (I.ok.hd hc) k' i2 b its2.toArray ?_⟩
      have : its2.length ≤ i := by omega
      simpa using this
  self := fun A i s Q E st h => wpAny_pyIter_zip st.1 h
/-- zip(a, b), lists or tuples -/
def iZipK (K : PySem.W.Frag) (ta : TA) : L2.TI := fun σ H R => ta σ H fun vs H1 => ∃ (k k' : Bool) (a b : Addr) (xs ys : List V), vs = [.ref a, .ref b] ∧ SqK k K H1 a xs ∧ SqK k' K H1 b ys ∧ R (ItzK k k' K a b) H1
theorem pi_zipK {X : Cx} {e e2 : Expr} {ta : TA} {p pos tpos : Pos} {elts : List Expr} {kk : Nat} (hg : Gl X "zip") (hm : X.mg "zip" = none) (ha : PA X [e, e2] ta)
    (hs : starEach [e, e2] X.env = (false, eval e X.env) :: starEach [e2] X.env := by rfl) (hpl : (backTo pos (starEach [e2] X.env)).any (·.1) = false := by rfl) :
    PI X (.Tuple elts kk tpos) (.Call (.Name "zip" p) [e, e2] [] pos) (iZipK X.K ta) := by
  refine ⟨fun pins s σ H R I h => ?_⟩
  refine Call_ (ld_blt I hg hm PyProof.Rows.boot_zip (PyProof.Rows.callWith_type1 (thn (ha.run pos pins s σ H _ I h) fun us s1 ⟨vs, H1, I1, r1, q1⟩ => ?_) hs hpl))
  obtain ⟨k, k', a, b, xs, ys, ex, hqx, hqy, q⟩ := q1
  subst ex
  cases r1 with
  | cons r rr =>
    cases rr with
    | cons r' rr =>
      cases rr
      cases r
      cases r'
      have fresh5 : ∀ c, c ∈ [s1.heap.objs.size + 4, s1.heap.objs.size + 2, s1.heap.objs.size + 3, s1.heap.objs.size, s1.heap.objs.size + 1] → FpOk X pins H1 c := fun c hcm => by
        have e' : c = s1.heap.objs.size + 4 ∨ c = s1.heap.objs.size + 2 ∨ c = s1.heap.objs.size + 3 ∨ c = s1.heap.objs.size ∨ c = s1.heap.objs.size + 1 := by simpa using hcm
        have hle : s1.heap.objs.size ≤ c := by
          rcases e' with z | z | z | z | z
          · rw [z]; exact Nat.le_add_right _ _
          · rw [z]; exact Nat.le_add_right _ _
          · rw [z]; exact Nat.le_add_right _ _
          · rw [z]; exact Nat.le_refl _
          · rw [z]; exact Nat.le_add_right _ _
        exact I1.fpOk hle (I1.hok.fresh hle)
      obtain ⟨its, rv, p1⟩ := inv_sqK I1 hqx
      obtain ⟨its2, rv2, p2⟩ := inv_sqK I1 hqy
      have la := isSqK_lt p1
      have lb := isSqK_lt p2
      refine call_zk p1 p2 fun h' hz hTI hTO h1 h2 hk => wpAny_pyIter_zip hz ?_
      have I2 : Inv X pins σ H1 { s1 with heap := h' } := I1.kept (t' := s1.toks) hk
      exact ⟨s1.heap.objs.size + 4, [s1.heap.objs.size + 4, s1.heap.objs.size + 2, s1.heap.objs.size + 3, s1.heap.objs.size, s1.heap.objs.size + 1], _, _, H1, rfl, I2, turn_zk (za_new s1.heap.objs.size a b la lb) (Nat.ne_of_lt la) (Nat.ne_of_lt (Nat.lt_succ_of_lt lb)), ⟨hz, hTI, ⟨_, _, hTO⟩, h1, h2⟩, fresh5, q⟩
section
variable {K : PySem.W.Frag} {Hm : Hp}
theorem wlk_zk {k k' : Bool} {a b : Addr} {xs ys : List V} {dxs dys : List PyData} (ha : SqK k K Hm a xs) (hb : SqK k' K Hm b ys) (h1 : RpL K Hm dxs xs) (h2 : RpL K Hm dys ys) : Wlk K Hm (ItzK k k' K a b) (List.zipWith pairD dxs dys) := by
  have len : (List.zipWith pairD dxs dys).length = min xs.length ys.length := by rw [List.length_zipWith, rpl_len h1, rpl_len h2]
  refine ⟨fun H => SqK k K H a xs ∧ SqK k' K H b ys, fun i H x H' => ∃ T y z, x = .ref T ∧ H T = none ∧ H' = upd H T (.tup [y, z]) ∧ xs[i]? = some y ∧ ys[i]? = some z, ⟨fun i H hi g => ?_, fun H g => ⟨xs, ys, g.1, g.2, ?_⟩, fun i H x H' hi g y => ?_⟩, fun H s => ⟨sqK_sm s ha, sqK_sm s hb⟩, fun i d H x H' hd y O s mu => ?_⟩
  · rw [len] at hi
    have i1 : i < xs.length := by omega
    have i2 : i < ys.length := by omega
    exact ⟨xs, ys, xs[i], ys[i], g.1, g.2, by simp [i1], by simp [i2]⟩
  · rw [len]; omega
  · obtain ⟨T, x, z, e1, e2, e3, e4, e5⟩ := y
    exact ⟨T, x, z, e1, e2, e3, e4 xs g.1, e5 ys g.2⟩
  · obtain ⟨T, x, z, rfl, e2, e3, e4, e5⟩ := y
    exact pair_new h1 h2 hd ⟨T, x, z, rfl, e2, e3, e4, e5⟩ s mu
end
def seqD : PyData → Option (List PyData)
  | .list xs => some xs
  | .tuple xs => some xs
  | _ => none
def zipY (f g : PX) : PIx := fun Γ => match f Γ with
  | some (.ok x) => (match seqD x with
    | some xs => (match g Γ with
      | some (.ok y) => (match seqD y with
        | some ys => some (.ok (List.zipWith pairD xs ys))
        | none => none)
      | some (.error e) => some (.error e)
      | none => none)
    | none => none)
  | some (.error e) => some (.error e)
  | none => none
theorem rp_seqD {K : PySem.W.Frag} {H : Hp} {d : PyData} {ds : List PyData} {v : V} (h : seqD d = some ds) (p : Rp K H d v) : ∃ (k : Bool) (a : Addr) (xs : List V), v = .ref a ∧ SqK k K H a xs ∧ RpL K H ds xs := by
  unfold seqD at h
  split at h
  · cases h ; obtain ⟨l, vs, e, k1, k2⟩ := rp_lst p ; exact ⟨false, l, vs, e, k1, k2⟩
  · cases h ; obtain ⟨l, vs, e, k1, k2⟩ := rp_tup p ; exact ⟨true, l, vs, e, k1, k2⟩
  · cases h
section
variable {X : Cx} {C : Cf} {W : WX} {k : Nat} {a b : Expr} {ta tb : TE} {fa fb : PX} {p pos tpos : Pos} {elts : List Expr} {kk : Nat}
theorem pi_zipY (o : On X C k) (hg : Gl X "zip") (hm : X.mg "zip" = none) (ha : PP X C W .st a ta fa) (hb : PP X C W .st b tb fb) (hs : starEach [a, b] X.env = (false, eval a X.env) :: starEach [b] X.env := by rfl) (hs2 : starEach [b] X.env = (false, eval b X.env) :: starEach [] X.env := by rfl) (hpl : (backTo pos (starEach [b] X.env)).any (·.1) = false := by rfl) :
    PIt X C W (.Tuple elts kk tpos) (.Call (.Name "zip" p) [a, b] [] pos) (iZipK C.K (tCons ta (tCons tb tNil))) (zipY fa fb) := ⟨by rw [← o.K]; exact pi_zipK hg hm (pa_cons ha.pe (pa_cons hb.pe pa_nil hs2) hs) hs hpl, fun Γ r hr H0 Ox σ H E R q => by
  show ta σ H fun x H1 => tb σ H1 fun y H2 => ∃ (k k' : Bool) (a b : Addr) (xs ys : List V), [x, y] = [V.ref a, V.ref b] ∧ SqK k C.K H2 a xs ∧ SqK k' C.K H2 b ys ∧ R (ItzK k k' C.K a b) H2
  unfold zipY at hr
  split at hr
  · rename_i dx h1
    split at hr
    · rename_i xs hx
      refine ha.ev Γ _ h1 H0 Ox σ H E _ fun v H1 s1 p1 => ?_
      have E1 := E.step s1
      split at hr
      · rename_i dy h2
        split at hr
        · rename_i ys hy
          cases hr
          refine hb.ev Γ _ h2 H0 Ox σ H1 E1 _ fun u H2 s2 p2 => ?_
          obtain ⟨c1, l1, vs1, rfl, k1, k2⟩ := rp_seqD hx (p1.sm s2.1)
          obtain ⟨c2, l2, vs2, rfl, k3, k4⟩ := rp_seqD hy p2
          exact ⟨c1, c2, l1, l2, vs1, vs2, rfl, sqK_sm (mask_le _ _) k1, sqK_sm (mask_le _ _) k3, q _ H2 (s1.trans s2) (wlk_zk k1 k3 k2 k4)⟩
        · cases hr
      · rename_i x h2
        cases hr
        exact hb.ev Γ _ h2 H0 Ox σ H1 E1 _ fun H' s => q H' (s1.trans s)
      · cases hr
    · cases hr
  · rename_i x h1
    cases hr
    exact ha.ev Γ _ h1 H0 Ox σ H E _ q
  · cases hr⟩
end
end Z

set_option Elab.async false
set_option linter.all false
set_option maxRecDepth 100000
set_option maxHeartbeats 4000000
namespace Z
open PySem PySem.Spec PyProof.Rows L2

/-! ## sorted(t), a tuple of whole numbers -/
section
variable {prog : Program} {w : World} {A : Around} {E : Value → Shared → Prop} {s : Shared}
theorem collect_tup {l : Addr} {vs : List Value} {Q : List Value → Shared → Prop} (hl : s.heap.IsTuple l vs.toArray)
    (h : Q vs { s with heap := (s.heap.push (seqObj "list" #[] 0)).update s.heap.objs.size (Obj.mapSeq (· ++ vs.toArray)) }) (hsz : vs.length ≤ sizeLine) : wpAny (model prog w) A (collect (.ref l)) Q E s := by
  obtain ⟨o, ho, hc, n, hd⟩ := id hl
  unfold collect
  refine wpAny_bind (wpAny_runValue (codeAny_builtin entry_proto_collect' ?_))
  show wpAny _ _ (do again (.builtin "list.__iadd__" ⟨[← newList [], .ref l], []⟩)) _ _ s
  refine wpAny_bind (wpAny_newList (wpAny_pure ⟨Code.quiet_builtin _ (by decide +kernel), codeAny_builtin entry_list_iadd' ?_⟩))
  show wpAny _ _ (Builtin.List.listExtendWith (.ref s.heap.objs.size) (.ref l) (.ref s.heap.objs.size)) _ _ { s with heap := s.heap.push (seqObj "list" #[] 0) }
  unfold Builtin.List.listExtendWith
  have ho' : (s.heap.push (seqObj "list" #[] 0)).get? l = some o := Heap.get?_push_of_some _ ho
  refine wpAny_bind (wpAny_typeOf (T := "tuple") ⟨o, ho', hc⟩ ?_)
  have ht : (Value.type "tuple" == Value.type "tuple") = true := by rfl
  rw [if_pos (by rw [ht]; simp)]
  refine wpAny_bind (listItems_at ho' hd (wpAny_bind (listItems_at (xs := #[]) (n := 0) (Heap.get?_push_size _ rfl) rfl ?_)))
  rw [if_neg (by simp)]
  refine wpAny_bind (listUpdate_at (xs := #[]) (n := 0) (Heap.get?_push_size _ rfl) rfl (wpAny_pure ?_) (Nat.zero_le _) (by show (#[] ++ vs.toArray).size ≤ sizeLine + 1; simp only [Array.size_append, List.size_toArray, List.length_nil]; omega))
  refine wpAny_bind (wpAny_load (get?_update_seq (Heap.get?_push_size _ rfl) _) ?_)
  show wpAny _ _ (pure ((#[] : Array Value) ++ vs.toArray).toList) Q E _
  rw [show ((#[] : Array Value) ++ vs.toArray).toList = vs by simp]
  exact wpAny_pure h
theorem sorted_tup {l : Addr} {vs : List Value} {ltv : Value → Value → Bool} {Q : Value → Shared → Prop} (O : SrtO.Swo ltv) (hl : s.heap.IsTuple l vs.toArray) (hz : vs.length ≤ sizeLine)
    (hS : 2 ≤ vs.length → ∀ (h₁ : Heap) (a : Addr), SrtO.SortableO prog w A.in1.in1 { s with heap := h₁ } a vs ltv)
    (h : ∀ out : List Value, SrtO.Srtd ltv out → SrtO.Stb ltv out vs → Q (.ref (s.heap.objs.size + 1)) { s with heap := sortedAll s.heap vs out.toArray }) :
    wpAny (model prog w) A (call (.builtin "sorted") [.ref l]) Q E s := by
  refine Calls.call_function_entry kind_sorted plain_sorted entry_sorted (args_sorted1 _) ?_
  unfold Builtin.«sorted»
  refine wpAny_bind (m := checkCount "sorted" 1 1 _) (wpAny_pure (wpAny_bind (collect_tup hl (wpAny_bind (wpAny_newList ?_ hz)) hz)))
  have hsz : ((s.heap.push (seqObj "list" #[] 0)).update s.heap.objs.size (Obj.mapSeq (· ++ vs.toArray))).objs.size = s.heap.objs.size + 1 := by
    rw [Heap.size_update, size_push']
  have hoL : (((s.heap.push (seqObj "list" #[] 0)).update s.heap.objs.size (Obj.mapSeq (· ++ vs.toArray))).push (seqObj "list" vs.toArray 0)).get? (s.heap.objs.size + 1) = some (seqObj "list" vs.toArray 0) := by
    rw [← hsz]; exact Heap.get?_push_size _ rfl
  show wpAny _ _ _ _ _ { s with heap := ((s.heap.push (seqObj "list" #[] 0)).update s.heap.objs.size (Obj.mapSeq (· ++ vs.toArray))).push (seqObj "list" vs.toArray 0) }
  rw [hsz]
  refine wpAny_bind (wpAny_holding (wpAny_call_entry slot_list_sort ⟨_, hoL, rfl⟩ entry_list_sort (SrtO.list_sort_ord O hoL hz (fun h2 => hS h2 _ _) fun out hs hb => ⟨_, rfl, ?_⟩) (args_list_sort _)))
  exact wpAny_pure ⟨_, rfl, h out hs hb⟩
end
def rSortedU (K : PySem.W.Frag) : List V → Hp → VK → Prop := fun vs H Q => ∃ (a : Addr) (ns : List Int), vs = [V.ref a] ∧ SqT K H a (ns.map V.int) ∧ ∀ (ns' : List Int) (p : Addr), ns'.Perm ns → ns'.Pairwise (· ≤ ·) → H p = none → Q (.ref p) (upd H p (.lst (ns'.map V.int)))
theorem cr_sortedU {X : Cx} : CallR X (.builtin "sorted") (rSortedU X.K) := by
  intro pins s σ H vs us Q I r h
  obtain ⟨a, ns, rfl, hs, q⟩ := h
  obtain ⟨its, rv, hl, hz⟩ := I.tuple hs
  rw [Vals.ref1 r]
  have hi := rv.ints
  refine sorted_tup SrtO.swo_int hl (by rw [← rv.length]; exact hz) (fun h2 h₁ a' => SrtO.ints_sortable hi h2) fun out h1 h2 => ?_
  obtain ⟨k1, k2, k3⟩ := SrtO.ints_out hi h1 h2
  obtain ⟨ep, he'⟩ := PyProof.Rows.sortedAll_at s.heap its out.toArray
  have hlen : ((out.map SrtO.iv).map V.int).length ≤ sizeLine := by
    rw [List.length_map, k2.length_eq]
    rw [List.length_map] at hz
    exact hz
  exact ⟨.ref _, upd H (s.heap.objs.size + 1) (.lst ((out.map SrtO.iv).map V.int)), I.laid (t' := s.toks) (fun _ _ => PyProof.Rows.sortedAll_old) (Nat.le_succ _) ⟨hlen, out, ep, vals_of_ints k1, he'⟩, rfl, q _ _ k2 k3 (I.hok.fresh (Nat.le_succ _))⟩
def gSortP : PyData → Option PyData
  | .list ds => (ints? ds).map fun ns => .list ((isort ns).map .int)
  | .tuple ds => (ints? ds).map fun ns => .list ((isort ns).map .int)
  | _ => none
section
variable {X : Cx} {C : Cf} {W : WX} {m : Md} {k : Nat} {a : Expr} {ta : TE} {fa : PX} {pos p : Pos}
theorem rhf_sortP {K : PySem.W.Frag} : RHF K m (fun vs H Q => rSortedI K vs H Q ∨ rSortedU K vs H Q) gSortP := by
  intro d z hz O Ox x H mu px Q q
  unfold gSortP at hz
  split at hz
  · rename_i ds
    exact .inl (rhf_sortI (.list ds) z hz O Ox x H mu px Q q)
  · rename_i ds
    cases h1 : ints? ds with
    | none => rw [h1] at hz; cases hz
    | some ns =>
      rw [h1] at hz; cases hz
      obtain ⟨p, xs, rfl, h2, h3⟩ := rp_tup px
      have e := ints_v h1 h3
      subst e
      refine .inr ⟨p, ns, rfl, hm_sqT h2, fun ns' l hp hs hl => ?_⟩
      rw [isort_unique hp hs]
      exact q l _ H (.refl _ _) hl ⟨_, rfl, rpl_ints _⟩
  · cases hz
theorem pf_sortP (o : On X C k) (hg : Gl X "sorted") (hm : X.mg "sorted" = none) (ha : PH X C W m a ta fa) (hs : starEach [a] X.env = (false, eval a X.env) :: starEach [] X.env := by rfl) : PF X C W m (.Call (.Name "sorted" p) [a] [] pos) (tCB (fun vs H Q => rSortedI C.K vs H Q ∨ rSortedU C.K vs H Q) (tCons ta tNil)) (b1 fa gSortP) := pf_b1 (hs := hs) (by rw [← o.K]; exact cr_sortedI.or cr_sortedU) rhf_sortP boot_sorted' hg hm ha
end
end Z

set_option Elab.async false
set_option linter.all false
set_option maxRecDepth 100000
set_option maxHeartbeats 4000000
namespace Z
open PySem PySem.Spec PyProof.Rows L2

/-! ## tuple(range(..)) -/
def gRg1T : PyData → Option PyData
  | .int n => if rgOk 0 n then some (.tuple (rgD 0 n)) else none
  | _ => none
def gRg2T : PyData → PyData → Option PyData
  | .int i, .int n => if rgOk i n then some (.tuple (rgD i n)) else none
  | _, _ => none
section
variable {X : Cx} {C : Cf} {W : WX} {m : Md} {k : Nat} {a b : Expr} {ta tb : TE} {fa fb : PX} {pos p p' pos' : Pos}
theorem pp_tupRg1 (o : On X C k) (cm : X.calm = true) (hg : Gl X "tuple") (hm : X.mg "tuple" = none) (hgr : Gl X "range") (hmr : X.mg "range" = none) (ha : PP X C W m a ta fa) (hs : starEach [a] X.env = (false, eval a X.env) :: starEach [] X.env := by rfl)
    (na : starEach [Expr.Call (.Name "range" p') [a] [] pos'] X.env = (false, eval (Expr.Call (.Name "range" p') [a] [] pos') X.env) :: starEach [] X.env := by rfl) :
    PP X C W m (.Call (.Name "tuple" p) [.Call (.Name "range" p') [a] [] pos'] [] pos) (tTupRg (tRg1 ta)) (b1 fa gRg1T) := by
  refine ⟨pe_tupRg cm hg hm (prg_1 hgr hmr ha.pe hs) na, fun Γ r' hr' H0 Ox σ H E Q q => ?_⟩
  show ta σ H fun x H1 => ∃ n, x = .int n ∧ RgOk 0 n ∧ ∀ l, H1 l = none → Q (.ref l) (upd H1 l (.tup (rgV 0 n)))
  refine ev_one ha.ev E hr' (fun d z hz er x H2 s E2 px => ?_) fun x ex => by subst ex; exact q
  subst er
  unfold gRg1T at hz
  split at hz
  · rename_i n
    by_cases h : rgOk 0 n
    · rw [if_pos h] at hz; cases hz
      exact ⟨n, rp_int px, h.ok, fun l hl => q _ _ (s.trans (.new E2.mut hl)) (new_tup E2.ows hl (rpl_rg 0 n))⟩
    · rw [if_neg h] at hz; cases hz
  · cases hz
theorem pp_tupRg2 (o : On X C k) (cm : X.calm = true) (hg : Gl X "tuple") (hm : X.mg "tuple" = none) (hgr : Gl X "range") (hmr : X.mg "range" = none) (ha : PP X C W m a ta fa) (hb : PP X C W m b tb fb) (hs : starEach [a, b] X.env = (false, eval a X.env) :: starEach [b] X.env := by rfl) (hs2 : starEach [b] X.env = (false, eval b X.env) :: starEach [] X.env := by rfl)
    (hp : (backTo pos' (starEach [b] X.env)).any (·.1) = false := by rfl) (na : starEach [Expr.Call (.Name "range" p') [a, b] [] pos'] X.env = (false, eval (Expr.Call (.Name "range" p') [a, b] [] pos') X.env) :: starEach [] X.env := by rfl) :
    PP X C W m (.Call (.Name "tuple" p) [.Call (.Name "range" p') [a, b] [] pos'] [] pos) (tTupRg (tRg2 ta tb)) (b2 fa fb gRg2T) := by
  refine ⟨pe_tupRg cm hg hm (prg_2 hgr hmr ha.pe hb.pe hs hs2 hp) na, fun Γ r' hr' H0 Ox σ H E Q q => ?_⟩
  show ta σ H fun x H1 => tb σ H1 fun y H2 => ∃ i j, x = .int i ∧ y = .int j ∧ RgOk i j ∧ ∀ l, H2 l = none → Q (.ref l) (upd H2 l (.tup (rgV i j)))
  refine ev_two ha.ev hb.ev E hr' (fun d e z hz er x y H2 s E2 px py => ?_) fun x ex => by subst ex; exact q
  subst er
  unfold gRg2T at hz
  split at hz
  · rename_i i n
    by_cases h : rgOk i n
    · rw [if_pos h] at hz; cases hz
      exact ⟨i, n, rp_int px, rp_int py, h.ok, fun l hl => q _ _ (s.trans (.new E2.mut hl)) (new_tup E2.ows hl (rpl_rg i n))⟩
    · rw [if_neg h] at hz; cases hz
  · cases hz

/-! ## x in xs, x not in xs: data of any depth in a list; a text in a text -/
def inB (d e : PyData) : Option Bool := match e with
  | .list ds => if SeqAt.shaped d && SeqAt.shaped (.list ds) then some (ds.any fun z => PyData.eqv z d) else none
  | .str z => (match d with
    | .str x => some (!(Builtin.Str.occurrences z x 0 z.length 1).isEmpty)
    | _ => none)
  | .tuple ds => (match d with
    | .int i => (ints? ds).map fun ns => ns.any fun n => n == i
    | .str x => (strs? ds).map fun ss => ss.any fun z => z == x
    | _ => none)
  | _ => none
def gInD (d e : PyData) : Option PyData := (inB d e).map .bool
def gNinD (d e : PyData) : Option PyData := (inB d e).map fun b => .bool (!b)
abbrev rInT : R2 := fun x y H Q => ∃ i j, x = .str i ∧ y = .str j ∧ Q (.bl (!(Builtin.Str.occurrences j i 0 j.length 1).isEmpty)) H
abbrev rNinT : R2 := fun x y H Q => ∃ i j, x = .str i ∧ y = .str j ∧ Q (.bl (!(!(Builtin.Str.occurrences j i 0 j.length 1).isEmpty))) H
theorem in_cases {K : PySem.W.Frag} {H : Hp} {d e : PyData} {b : Bool} {x y : V} (h : inB d e = some b) (px : Rp K H d x) (py : Rp K H e y) :
    (∃ i j, x = .str i ∧ y = .str j ∧ b = !(Builtin.Str.occurrences j i 0 j.length 1).isEmpty) ∨ (∃ ds, Dp K H x d ∧ Dp K H y (.list ds) ∧ SeqAt.shaped d = true ∧ SeqAt.shaped (.list ds) = true ∧ b = ds.any fun z => PyData.eqv z d) ∨ (∃ p xs, y = .ref p ∧ SqT K H p xs ∧ flatV x = true ∧ xs.all flatV = true ∧ b = inV x xs) := by
  unfold inB at h
  split at h
  · rename_i ds
    by_cases hc : (SeqAt.shaped d && SeqAt.shaped (.list ds)) = true
    · rw [if_pos hc] at h ; cases h
      rw [Bool.and_eq_true] at hc
      exact .inr (.inl ⟨ds, rp_dp d x (SeqAt.canLay_of_shaped hc.1) px, rp_dp _ y (SeqAt.canLay_of_shaped hc.2) py, hc.1, hc.2, rfl⟩)
    · rw [if_neg hc] at h ; cases h
  · split at h
    · cases h
      rw [rp_str px, rp_str py]
      exact .inl ⟨_, _, rfl, rfl, rfl⟩
    · cases h
  · rename_i ds
    split at h
    · rename_i i
      cases h1 : ints? ds with
      | none => rw [h1] at h; cases h
      | some ns =>
        rw [h1] at h; cases h
        obtain ⟨p, xs, rfl, h2, h3⟩ := rp_tup py
        have e := ints_v h1 h3
        subst e
        rw [rp_int px]
        exact .inr (.inr ⟨p, _, rfl, h2, rfl, by rw [List.all_map]; exact List.all_eq_true.mpr fun _ _ => rfl, by rw [inV, List.any_map]; rfl⟩)
    · rename_i z
      cases h1 : strs? ds with
      | none => rw [h1] at h; cases h
      | some ns =>
        rw [h1] at h; cases h
        obtain ⟨p, xs, rfl, h2, h3⟩ := rp_tup py
        have e := strs_v h1 h3
        subst e
        rw [rp_str px]
        exact .inr (.inr ⟨p, _, rfl, h2, rfl, by rw [List.all_map]; exact List.all_eq_true.mpr fun _ _ => rfl, by rw [inV, List.any_map]; rfl⟩)
    · cases h
  · cases h
theorem pp_inD (o : On X C k) (ha : PP X C W m a ta fa) (hb : PH X C W m b tb fb) (hm : behindInMarks .In b = false := by rfl) : PP X C W m (.Compare a [.In] [b] pos) (tOp (fun x y H Q => rInT x y H Q ∨ rInD C.K x y H Q ∨ rIn C.K false x y H Q) ta tb) (b2 fa fb gInD) := by
  refine ⟨pe_cmpR (by rw [← o.K]; exact op_in_str.or ((op_inD (by have := o.un; omega)).or op_in_seq)) ha.pe hb.pe hm, fun Γ r' hr' H0 Ox σ H E Q q => ?_⟩
  refine evH_two ha.h.ev hb.ev E hr' (fun d e z hz er x y H2 s E2 px py => ?_) fun x ex => by subst ex; exact q
  subst er
  unfold gInD at hz
  cases h : inB d e with
  | none => rw [h] at hz; cases hz
  | some w =>
    rw [h] at hz; cases hz
    rcases in_cases h (hf_rd px) (hf_rd py) with ⟨i, j, rfl, rfl, rfl⟩ | ⟨ds, h1, h2, h3, h4, rfl⟩ | ⟨p, xs, rfl, h1, h2, h3, rfl⟩
    · exact .inl ⟨i, j, rfl, rfl, q _ _ s mk_bool⟩
    · exact .inr (.inl ⟨d, ds, h1, h2, h3, h4, q _ _ s mk_bool⟩)
    · exact .inr (.inr ⟨p, xs, rfl, .inr h1, h2, h3, q _ _ s mk_bool⟩)
theorem pp_ninD (o : On X C k) (ha : PP X C W m a ta fa) (hb : PH X C W m b tb fb) (hm : behindInMarks .NotIn b = false := by rfl) : PP X C W m (.Compare a [.NotIn] [b] pos) (tOp (fun x y H Q => rNinT x y H Q ∨ rNotInD C.K x y H Q ∨ rIn C.K true x y H Q) ta tb) (b2 fa fb gNinD) := by
  refine ⟨pe_cmpR (by rw [← o.K]; exact op_notin_str.or ((op_notInD (by have := o.un; omega)).or op_notIn_seq)) ha.pe hb.pe hm, fun Γ r' hr' H0 Ox σ H E Q q => ?_⟩
  refine evH_two ha.h.ev hb.ev E hr' (fun d e z hz er x y H2 s E2 px py => ?_) fun x ex => by subst ex; exact q
  subst er
  unfold gNinD at hz
  cases h : inB d e with
  | none => rw [h] at hz; cases hz
  | some w =>
    rw [h] at hz; cases hz
    rcases in_cases h (hf_rd px) (hf_rd py) with ⟨i, j, rfl, rfl, rfl⟩ | ⟨ds, h1, h2, h3, h4, rfl⟩ | ⟨p, xs, rfl, h1, h2, h3, rfl⟩
    · exact .inl ⟨i, j, rfl, rfl, q _ _ s mk_bool⟩
    · exact .inr (.inl ⟨d, ds, h1, h2, h3, h4, q _ _ s mk_bool⟩)
    · exact .inr (.inr ⟨p, xs, rfl, .inr h1, h2, h3, q _ _ s mk_bool⟩)
theorem pt_inD (o : On X C k) (ha : PP X C W .rd a ta fa) (hb : PH X C W .rd b tb fb) (hm : behindInMarks .In b = false := by rfl) : PTt X C W (.Compare a [.In] [b] pos) (tTest (tOp (fun x y H Q => rInT x y H Q ∨ rInD C.K x y H Q ∨ rIn C.K false x y H Q) ta tb)) (toT (b2 fa fb gInD)) := ptt_of (pp_inD o ha hb hm) (pt_cmpR (by rw [← o.K]; exact op_in_str.or ((op_inD (by have := o.un; omega)).or op_in_seq)) ha.pe hb.pe hm)
theorem pt_ninD (o : On X C k) (ha : PP X C W .rd a ta fa) (hb : PH X C W .rd b tb fb) (hm : behindInMarks .NotIn b = false := by rfl) : PTt X C W (.Compare a [.NotIn] [b] pos) (tTest (tOp (fun x y H Q => rNinT x y H Q ∨ rNotInD C.K x y H Q ∨ rIn C.K true x y H Q) ta tb)) (toT (b2 fa fb gNinD)) := ptt_of (pp_ninD o ha hb hm) (pt_cmpR (by rw [← o.K]; exact op_notin_str.or ((op_notInD (by have := o.un; omega)).or op_notIn_seq)) ha.pe hb.pe hm)

/-! ## str(x), a whole number or a text -/
def gStr : PyData → Option PyData
  | .int i => if i.natAbs < 2 ^ 1000 then some (.str (toString i)) else none
  | .str z => some (.str z)
  | _ => none
abbrev rStr : List V → Hp → VK → Prop := fun xs H Q => (∃ i, xs = [.int i] ∧ i.natAbs.log2 < 1920 ∧ Q (.str (toString i)) H) ∨ ∃ a, xs = [.str a] ∧ Q (.str a) H
theorem log_of {n : Nat} (h : n < 2 ^ 1000) : n.log2 < 1920 := by
  rcases Nat.eq_zero_or_pos n with e | e
  · subst e; decide
  · have := (Nat.log2_lt (k := 1000) (Nat.ne_of_gt e)).mpr h
    omega
theorem rh_str {K : PySem.W.Frag} : RH K m rStr gStr := by
  intro d z hz O Ox x H mu px Q q
  unfold gStr at hz
  split at hz
  · rename_i i
    by_cases h : i.natAbs < 2 ^ 1000
    · rw [if_pos h] at hz; cases hz
      rw [rp_int (K := K) (H := H) px]
      exact .inl ⟨i, rfl, log_of h, q _ H (.refl _ _) mk_str⟩
    · rw [if_neg h] at hz; cases hz
  · cases hz
    rw [rp_str (K := K) (H := H) px]
    exact .inr ⟨_, rfl, q _ H (.refl _ _) mk_str⟩
  · cases hz
theorem pp_strO (o : On X C k) (hg : Gl X "str") (hm : X.mg "str" = none) (ha : PH X C W m a ta fa) (hs : starEach [a] X.env = (false, eval a X.env) :: starEach [] X.env := by rfl) : PP X C W m (.Call (.Name "str" p) [a] [] pos) (tCB rStr (tCons ta tNil)) (b1 fa gStr) := pp_t1 (hs := hs) (call_str_int.or SkE.call_str_str) rh_str PyProof.Rows.boot_str hg hm ha
end
end Z

set_option Elab.async false
set_option linter.all false
set_option maxRecDepth 100000
set_option maxHeartbeats 4000000
namespace Z
open PySem PySem.Spec PyProof.Rows L2

/-! ## xs.index(x): a list of data of any depth, a text -/
def tIxM (K : PySem.W.Frag) (to te : TE) : TE := fun σ H Q => to σ H fun x H1 => ((∃ a, x = .str a) ∨ tyV K "list" x H1) ∧ te σ H1 fun y H2 =>
  (∃ a b i rest, x = .str a ∧ y = .str b ∧ Builtin.Str.occurrences a b 0 a.length 1 = i :: rest ∧ Q (.int (i : Nat)) H2) ∨ rIndexD K x [y] H2 Q
def firstD (d : PyData) (ds : List PyData) : Option Nat := ds.findIdx? fun z => PyData.eqv z d
def gIndex : PyData → PyData → Option PyData
  | .list ds, d => if SeqAt.shaped (.list ds) && SeqAt.shaped d then (firstD d ds).map fun j => .int (j : Nat) else none
  | .str a, .str b => (match Builtin.Str.occurrences a b 0 a.length 1 with
    | i :: _ => some (.int (i : Nat))
    | [] => none)
  | _, _ => none
theorem firstD_some {d : PyData} {ds : List PyData} {j : Nat} (h : firstD d ds = some j) : ∃ z, ds[j]? = some z ∧ PyData.eqv z d = true ∧ ∀ (m : Nat) (z' : PyData), m < j → ds[m]? = some z' → PyData.eqv z' d = false := by
  unfold firstD at h
  rw [List.findIdx?_eq_some_iff_getElem] at h
  obtain ⟨hj, h1, h2⟩ := h
  refine ⟨ds[j], by simp [hj], h1, fun m z' hm hz => ?_⟩
  have hml : m < ds.length := by omega
  rw [List.getElem?_eq_getElem hml] at hz
  cases hz
  simpa using h2 m hm
section
variable {X : Cx} {C : Cf} {W : WX} {m : Md} {k : Nat} {a b : Expr} {ta tb : TE} {fa fb : PX} {pos apos : Pos}
theorem pe_ixM (hu : X.A.units + 65 < cLine) (ho : PE X a ta) (he : PE X b tb) (hs : starEach [b] X.env = [(false, eval b X.env)] := by rfl) (hbase : attributeBase a "index" X.env (eval a X.env) = eval a X.env := by rfl) (hline : (apos.endLine == pos.line) = true := by rfl) :
    PE X (.Call (.Attribute a "index" apos) [b] [] pos) (tIxM X.K ta tb) := by
  refine ⟨fun pins s σ H Q I h => ?_⟩
  refine PySem.Call_method1 hbase hs hline (thn (ho.run pins s σ H _ I h) fun v s1 ⟨x, H1, I1, r1, q1⟩ => ?_)
  obtain ⟨ty, q1⟩ := q1
  rcases ty with ⟨a, rfl⟩ | ty
  · obtain ⟨t, rfl⟩ := _root_.id r1
    refine ⟨"str", _, PySem.F.plainAttrs_str, PySem.F.slot_str_index, PySem.F.type_str_index, typeIs_str _ _ _, (fun _ e => nomatch e), Calls.callWith_builtin rfl (Calls.evalArgs_plain (Calls.spliced_cons ?_))⟩
    refine thn (he.run pins s1 σ H1 _ I1 q1) fun u s2 ⟨y, H2, I2, r2, q2⟩ => Calls.spliced_nil ?_
    rcases q2 with ⟨a', b, i, rest, e1, e2, e3, q2⟩ | ⟨p, _, _, _, _, _, e, _⟩
    · exact mt_sindex pins s2 σ H2 _ [y] _ [u] Q I2 r1 (.cons r2 .nil) ⟨a', b, i, rest, e1, by rw [e2], e3, q2⟩
    · cases e
  · obtain ⟨h1, h2⟩ := tyV_is I1 r1 ty
    refine ⟨"list", _, PySem.F.plainAttrs_list, PySem.F.slot_list_index, PySem.F.type_list_index, h1, h2, Calls.callWith_builtin rfl (Calls.evalArgs_plain (Calls.spliced_cons ?_))⟩
    refine thn (he.run pins s1 σ H1 _ I1 q1) fun u s2 ⟨y, H2, I2, r2, q2⟩ => Calls.spliced_nil ?_
    rcases q2 with ⟨a', b, i, rest, e1, e2, e3, q2⟩ | q2
    · subst e1
      exact absurd (show "list" = "str" from ty) (by decide)
    · exact mt_indexD hu pins s2 σ H2 _ [y] _ [u] Q I2 r1 (.cons r2 .nil) q2
def isIx : PyData → Bool
  | .list _ => true
  | .str _ => true
  | _ => false
def fI (f : PX) : PX := fun Γ => match f Γ with
  | some (.ok d) => if isIx d then some (.ok d) else none
  | r => r
theorem ix_ty {K : PySem.W.Frag} {O Ox : List Addr} {H : Hp} {d : PyData} {x : V} (h : isIx d = true) (px : Hf K m O Ox H d x) : (∃ a, x = .str a) ∨ tyV K "list" x H := by
  unfold isIx at h
  split at h
  · obtain ⟨p, xs, rfl, h1, _⟩ := px
    exact .inr (.inl ⟨rfl, xs, h1⟩)
  · exact .inl ⟨_, rp_str (K := K) (H := H) (hf_rd px)⟩
  · cases h
theorem pp_index (o : On X C k) (ha : PH X C W m a ta fa) (hb : PP X C W m b tb fb) (hs : starEach [b] X.env = [(false, eval b X.env)] := by rfl) (hbase : attributeBase a "index" X.env (eval a X.env) = eval a X.env := by rfl) (hline : (apos.endLine == pos.line) = true := by rfl) :
    PP X C W m (.Call (.Attribute a "index" apos) [b] [] pos) (tIxM C.K ta tb) (b2 (fI fa) fb gIndex) := by
  refine ⟨by rw [← o.K]; exact pe_ixM (by have := o.un; omega) ha.pe hb.pe hs hbase hline, fun Γ r' hr' H0 Ox σ H E Q q => ?_⟩
  unfold b2 fI at hr'
  cases h1 : fa Γ with
  | none => rw [h1] at hr'; cases hr'
  | some ra =>
    rw [h1] at hr'
    cases ra with
    | error x => cases hr'; exact ha.ev Γ _ h1 H0 Ox σ H E _ q
    | ok d =>
      simp only at hr'
      by_cases hd : isIx d = true
      · rw [if_pos hd] at hr'
        refine ha.ev Γ _ h1 H0 Ox σ H E _ fun x H1 s1 px => ?_
        refine ⟨ix_ty hd px, ?_⟩
        have E1 := E.step s1
        simp only at hr'
        cases h2 : fb Γ with
        | none => rw [h2] at hr'; cases hr'
        | some r2 =>
          rw [h2] at hr'
          cases r2 with
          | error x =>
            cases hr'
            exact hb.ev Γ _ h2 H0 Ox σ H1 E1 _ fun H' s => q H' (s1.trans s)
          | ok e =>
            refine hb.ev Γ _ h2 H0 Ox σ H1 E1 _ fun u H2 s2 py => ?_
            simp only at hr'
            have px2 : Hf C.K m (ow C.fl Ox σ Γ) Ox H2 d x := hf_sm s2 E1.ows px
            cases h3 : gIndex d e with
            | none => rw [h3] at hr'; cases hr'
            | some z =>
              rw [h3] at hr'
              cases hr'
              unfold gIndex at h3
              split at h3
              · rename_i ds
                by_cases hc : (SeqAt.shaped (.list ds) && SeqAt.shaped e) = true
                · rw [if_pos hc] at h3
                  rw [Bool.and_eq_true] at hc
                  cases h4 : firstD e ds with
                  | none => rw [h4] at h3; cases h3
                  | some j =>
                    rw [h4] at h3; cases h3
                    obtain ⟨z, z1, z2, z3⟩ := firstD_some h4
                    have pl := rp_dp _ x (SeqAt.canLay_of_shaped hc.1) (hf_rd px2)
                    have hx : ∃ p, x = .ref p := by obtain ⟨p, xs, e, _⟩ := rp_lst (hf_rd px2); exact ⟨p, e⟩
                    obtain ⟨p, rfl⟩ := hx
                    exact .inr ⟨p, u, e, ds, j, z, rfl, rfl, pl, rp_dp e u (SeqAt.canLay_of_shaped hc.2) (hf_rd (hf_of py)), hc.1, hc.2, z1, z2, z3, q _ _ (s1.trans s2) mk_int⟩
                · rw [if_neg hc] at h3; cases h3
              · split at h3
                · rename_i i rest ho
                  cases h3
                  refine .inl ⟨_, _, i, rest, rp_str (K := C.K) (H := H2) (hf_rd px2), rp_str (K := C.K) (H := H2) (hf_rd (hf_of py)), ho, q _ _ (s1.trans s2) mk_int⟩
                · cases h3
              · cases h3
      · rw [if_neg hd] at hr'; cases hr'
theorem rv_fI {Γ : Ga} {f : PX} {d : PyData} (h : f Γ = some (.ok d)) (i : isIx d = true) : fI f Γ = some (.ok d) := by
  unfold fI
  rw [h]
  simp only [i, if_true]
theorem isI_L {ds : List PyData} : isIx (.list ds) = true := rfl
theorem isI_S {z : Str} : isIx (.str z) = true := rfl
end
end Z

set_option Elab.async false
set_option linter.all false
set_option maxRecDepth 100000
set_option maxHeartbeats 4000000
namespace Z
open PySem PySem.Spec PyProof.Rows L2

/-! ## text.lower(), text.split(sep) -/
def gLower : PyData → Option PyData
  | .str a => if a.length ≤ 4000000 then some (.str (Txt.lower a)) else none
  | _ => none
def gSplit (a : Str) : PyData → Option PyData
  | .str b => if (b.length == 0) = false ∧ a.length ≤ 4000000 then some (.list ((Txt.split a b).map .str)) else none
  | _ => none
section
variable {X : Cx} {C : Cf} {W : WX} {m : Md} {k : Nat} {a b : Expr} {ta tb : TE} {fa fb : PX} {pos apos : Pos}
theorem pp_lower (o : On X C k) (ha : PP X C W m a ta fa) (hbase : attributeBase a "lower" X.env (eval a X.env) = eval a X.env := by rfl) (hline : (apos.endLine == pos.line) = true := by rfl) :
    PP X C W m (.Call (.Attribute a "lower" apos) [] [] pos) (tM0 (fun x xs H Q => ∃ a, x = .str a ∧ xs = [] ∧ a.length ≤ 5592405 ∧ Q (.str (Txt.lower a)) H) ta) (b1 fa gLower) := by
  refine ⟨pe_lower ha.pe hbase hline, fun Γ r' hr' H0 Ox σ H E Q q => ?_⟩
  show ta σ H fun x H1 => (∃ a, x = .str a) ∧ ∃ a, x = .str a ∧ ([] : List V) = [] ∧ a.length ≤ 5592405 ∧ Q (.str (Txt.lower a)) H1
  refine ev_one ha.ev E hr' (fun d z hz er x H2 s E2 px => ?_) fun x ex => by subst ex; exact q
  subst er
  unfold gLower at hz
  split at hz
  · rename_i z'
    by_cases h : z'.length ≤ 4000000
    · rw [if_pos h] at hz; cases hz
      exact ⟨⟨_, rp_str px⟩, _, rp_str px, rfl, by omega, q _ _ s mk_str⟩
    · rw [if_neg h] at hz; cases hz
  · cases hz
theorem pf_split (o : On X C k) (ha : PP X C W .rd a ta fa) (hb : PP X C W m b tb fb) (hs : starEach [b] X.env = [(false, eval b X.env)] := by rfl) (hbase : attributeBase a "split" X.env (eval a X.env) = eval a X.env := by rfl) (hline : (apos.endLine == pos.line) = true := by rfl) :
    PF X C W m (.Call (.Attribute a "split" apos) [b] [] pos) (tM1 (fun x xs H Q => ∃ a b, x = .str a ∧ xs = [.str b] ∧ (b.length == 0) = false ∧ a.length + 2 ≤ sizeLine ∧ rNewStrs (Txt.split a b) H Q) ta tb) (b2s fa fb gSplit) := by
  refine ⟨pe_split ha.pe hb.pe hs hbase hline, fun Γ r' hr' H0 Ox σ H E Q q => ?_⟩
  refine ev_m1 ha.ev hb.h.ev E hr' (fun d e z hz er y H2 s E2 py => ?_) fun x ex => by subst ex; exact q
  subst er
  unfold gSplit at hz
  split at hz
  · rename_i b'
    by_cases h : (b'.length == 0) = false ∧ d.length ≤ 4000000
    · rw [if_pos h] at hz; cases hz
      refine ⟨_, _, rfl, by rw [rp_str (K := C.K) (H := H2) (hf_rd py)], h.1, ?_, fun p hp => q p _ H2 s hp ⟨_, rfl, rpl_strs _⟩⟩
      rw [sizeLine_eq]
      have := h.2
      omega
    · rw [if_neg h] at hz; cases hz
  · cases hz
end
end Z

set_option Elab.async false
set_option linter.all false
set_option maxRecDepth 100000
set_option maxHeartbeats 4000000
namespace Z
open PySem PySem.Spec PyProof.Rows L2

/-! ## three values one behind the other -/
def b3 (f g h : PX) (k : PyData → PyData → PyData → Option PyData) : PX := fun Γ => match f Γ with
  | some (.ok d) => b2 g h (k d) Γ
  | r => r
section
variable {X : Cx} {C : Cf} {W : WX} {m : Md} {k : Nat} {e a b c : Expr} {te ta tb tc : TE} {f fa fb fc : PX} {pos p p' pos' apos : Pos}
theorem ev_three {R : V → V → V → Hp → Prop} {H0 H : Hp} {Ox : List Addr} {σ : L2.St} {Γ : Ga} {r : Res} {g : PyData → PyData → PyData → Option PyData} (ha : Ev C W m ta fa) (hb : Ev C W m tb fb) (hc : Ev C W m tc fc) (E : EnvR C H0 Ox σ Γ H) (hr : b3 fa fb fc g Γ = some r)
    (h : ∀ d e c z, g d e c = some z → r = .ok z → ∀ x y w H2, Stp (ow C.fl Ox σ Γ) H H2 → EnvR C H0 Ox σ Γ H2 → Rp C.K (hm m (ow C.fl Ox σ Γ) Ox H2) d x → Rp C.K (hm m (ow C.fl Ox σ Γ) Ox H2) e y → Rp C.K (hm m (ow C.fl Ox σ Γ) Ox H2) c w → R x y w H2)
    (he : ∀ x, r = .error x → ∀ H', Stp (ow C.fl Ox σ Γ) H H' → ErW C W σ x H') : ta σ H fun x H1 => tb σ H1 fun y H2 => tc σ H2 fun w H3 => R x y w H3 := by
  unfold b3 at hr
  cases h1 : fa Γ with
  | none => rw [h1] at hr; cases hr
  | some r1 =>
    rw [h1] at hr
    cases r1 with
    | error x =>
      cases hr
      exact ha Γ _ h1 H0 Ox σ H E _ (he x rfl)
    | ok d =>
      refine ha Γ _ h1 H0 Ox σ H E _ fun v H1 s1 p1 => ?_
      simp only at hr
      have E1 := E.step s1
      refine ev_two hb hc E1 hr (fun e c z hz er y w H2 s2 E2 py pw => ?_) fun x ex H' s => he x ex H' (s1.trans s)
      exact h d e c z hz er v y w H2 (s1.trans s2) E2 (p1.sm (hm_sm s2 E1.ows)) py pw

/-! ## ord -/
def gOrd : PyData → Option PyData
  | .str z => if z.length = 1 then some (.int (z.cps.getD 0 0 : Nat)) else none
  | _ => none
theorem boot_ord' : bootBuiltins "ord" = some (.builtin "ord") := by decide +kernel
abbrev rOrd : List V → Hp → VK → Prop := fun xs H Q => ∃ x, xs = [.str x] ∧ x.length = 1 ∧ Q (.int (x.cps.getD 0 0 : Nat)) H
theorem rh_ord {K : PySem.W.Frag} : RH K m rOrd gOrd := by
  intro d z hz O Ox x H mu px Q q
  unfold gOrd at hz
  split at hz
  · rename_i zz
    by_cases h : zz.length = 1
    · rw [if_pos h] at hz; cases hz
      exact ⟨zz, by rw [rp_str (K := K) (H := H) px], h, q _ H (.refl _ _) mk_int⟩
    · rw [if_neg h] at hz; cases hz
  · cases hz
theorem pp_ord (o : On X C k) (hg : Gl X "ord") (hm : X.mg "ord" = none) (ha : PH X C W m a ta fa) (hs : starEach [a] X.env = (false, eval a X.env) :: starEach [] X.env := by rfl) : PP X C W m (.Call (.Name "ord" p) [a] [] pos) (tCB rOrd (tCons ta tNil)) (b1 fa gOrd) := pp_b1 (hs := hs) call_ord rh_ord boot_ord' hg hm ha

/-! ## sum of a list of whole numbers -/
def gSum : PyData → Option PyData
  | .list ds => (ints? ds).map fun ns => .int ns.sum
  | _ => none
theorem boot_sum' : bootBuiltins "sum" = some (.builtin "sum") := by decide +kernel
theorem rh_sum {K : PySem.W.Frag} : RH K m (rSum K) gSum := by
  intro d z hz O Ox x H mu px Q q
  unfold gSum at hz
  split at hz
  · rename_i ds
    cases h1 : ints? ds with
    | none => rw [h1] at hz; cases hz
    | some ns =>
      rw [h1] at hz; cases hz
      obtain ⟨p, xs, rfl, h2, h3⟩ := px
      have e := ints_v h1 h3
      subst e
      exact ⟨p, ns, rfl, h2, q _ H (.refl _ _) mk_int⟩
  · cases hz
theorem pp_sum (o : On X C k) (cm : X.calm = true) (hg : Gl X "sum") (hm : X.mg "sum" = none) (ha : PH X C W m a ta fa) (hs : starEach [a] X.env = (false, eval a X.env) :: starEach [] X.env := by rfl) : PP X C W m (.Call (.Name "sum" p) [a] [] pos) (tCB (rSum C.K) (tCons ta tNil)) (b1 fa gSum) := pp_b1 (hs := hs) (by rw [← o.K]; exact cr_sum cm) rh_sum boot_sum' hg hm ha

/-! ## divmod -/
def gDivmod : PyData → PyData → Option PyData
  | .int i, .int j => if okDiv i j then some (.tuple [.int (i / j), .int (i % j)]) else none
  | _, _ => none
theorem boot_divmod' : bootBuiltins "divmod" = some (.builtin "divmod") := by decide +kernel
abbrev rDivmod : List V → Hp → VK → Prop := fun xs H Q => ∃ i j, xs = [.int i, .int j] ∧ CDiv i j ∧ ∀ p, H p = none → Q (.ref p) (upd H p (.tup [.int (i / j), .int (i % j)]))
theorem pp_divmod (o : On X C k) (hg : Gl X "divmod") (hm : X.mg "divmod" = none) (ha : PP X C W m a ta fa) (hb : PP X C W m b tb fb) (hs : starEach [a, b] X.env = (false, eval a X.env) :: starEach [b] X.env := by rfl) (hs2 : starEach [b] X.env = (false, eval b X.env) :: starEach [] X.env := by rfl) (hpl : (backTo pos (starEach [b] X.env)).any (·.1) = false := by rfl) :
    PP X C W m (.Call (.Name "divmod" p) [a, b] [] pos) (tCB rDivmod (tCons ta (tCons tb tNil))) (b2 fa fb gDivmod) := by
  refine ⟨pe_callB call_divmod hg hm boot_divmod' (pa_cons ha.pe (pa_cons hb.pe pa_nil hs2) hs) (by decide) (by decide) hs hpl, fun Γ r' hr' H0 Ox σ H E Q q => ?_⟩
  show ta σ H fun x H1 => tb σ H1 fun y H2 => rDivmod [x, y] H2 Q
  refine ev_two ha.ev hb.ev E hr' (fun d e z hz er x y H2 s E2 px py => ?_) fun x ex => by subst ex; exact q
  subst er
  unfold gDivmod at hz
  split at hz
  · rename_i i j
    by_cases h : okDiv i j
    · rw [if_pos h] at hz; cases hz
      refine ⟨i, j, by rw [rp_int px, rp_int py], h, fun l hl => q _ _ (s.trans (.new E2.mut hl)) (new_tup E2.ows hl (rpl_cons mk_int (rpl_cons mk_int rpl_nil)))⟩
    · rw [if_neg h] at hz; cases hz
  · cases hz

/-! ## range(a, b), an object; x in range(a, b) -/
abbrev rRng2 : List V → Hp → VK → Prop := fun xs H Q => ∃ i j, xs = [.int i, .int j] ∧ ∀ p, H p = none → Q (.ref p) (upd H p (.rng i j))
theorem cr_range2 : CallR X (.type "range") rRng2 := by
  intro pins s σ H vs us Q I r h
  obtain ⟨i, j, rfl, q⟩ := h
  cases r with
  | cons r1 r =>
    cases r with
    | cons r2 r =>
      cases r
      obtain ⟨t, rfl⟩ := r1
      obtain ⟨t2, rfl⟩ := r2
      refine call_range_2 ⟨.ref s.heap.objs.size, upd H s.heap.objs.size (.rng i j), I.laid (t' := s.toks + 1) (fun b o e => Heap.get?_push_of_some _ e) (Nat.le_refl _) ?_, rfl, q _ (I.hok.fresh (Nat.le_refl _))⟩
      exact ⟨t, t2, s.toks, Heap.get?_push_size _ rfl⟩
def gInRg2 : PyData → PyData → PyData → Option PyData
  | .int i, .int lo, .int hi => some (.bool (decide (lo ≤ i ∧ i < hi)))
  | _, _, _ => none
def gNinRg2 : PyData → PyData → PyData → Option PyData
  | .int i, .int lo, .int hi => some (.bool (!decide (lo ≤ i ∧ i < hi)))
  | _, _, _ => none
theorem pp_inRg2 (o : On X C k) (hgr : Gl X "range") (hmr : X.mg "range" = none) (ha : PP X C W .rd a ta fa) (hb : PP X C W .rd b tb fb) (hc : PP X C W .rd c tc fc) (hs : starEach [b, c] X.env = (false, eval b X.env) :: starEach [c] X.env := by rfl) (hs2 : starEach [c] X.env = (false, eval c X.env) :: starEach [] X.env := by rfl)
    (hpl : (backTo pos' (starEach [c] X.env)).any (·.1) = false := by rfl) (hm : behindInMarks .In (Expr.Call (.Name "range" p') [b, c] [] pos') = false := by rfl) :
    PP X C W m (.Compare a [.In] [.Call (.Name "range" p') [b, c] [] pos'] pos) (tOp rInRg ta (tCB rRng2 (tCons tb (tCons tc tNil)))) (b3 fa fb fc gInRg2) := by
  refine ⟨pe_cmpR op_in_rng ha.pe (pe_callTy cr_range2 hgr hmr boot_range (pa_cons hb.pe (pa_cons hc.pe pa_nil hs2) hs) (by decide) (by decide) hs hpl) hm, fun Γ r' hr' H0 Ox σ H E Q q => ?_⟩
  show ta σ H fun x H1 => tb σ H1 fun y H2 => tc σ H2 fun w H3 => ∃ i j, [y, w] = [V.int i, V.int j] ∧ ∀ p, H3 p = none → rInRg x (.ref p) (upd H3 p (.rng i j)) Q
  refine ev_three ha.ev hb.ev hc.ev E hr' (fun d e c z hz er x y w H2 s E2 px py pw => ?_) fun x ex => by subst ex; exact q
  subst er
  unfold gInRg2 at hz
  split at hz
  · rename_i i lo hi
    cases hz
    rw [rp_int px, rp_int py, rp_int pw]
    exact ⟨lo, hi, rfl, fun l hl => ⟨i, l, lo, hi, rfl, rfl, upd_same, q _ _ (s.trans (.new E2.mut hl)) mk_bool⟩⟩
  · cases hz
theorem pp_ninRg2 (o : On X C k) (hgr : Gl X "range") (hmr : X.mg "range" = none) (ha : PP X C W .rd a ta fa) (hb : PP X C W .rd b tb fb) (hc : PP X C W .rd c tc fc) (hs : starEach [b, c] X.env = (false, eval b X.env) :: starEach [c] X.env := by rfl) (hs2 : starEach [c] X.env = (false, eval c X.env) :: starEach [] X.env := by rfl)
    (hpl : (backTo pos' (starEach [c] X.env)).any (·.1) = false := by rfl) (hm : behindInMarks .NotIn (Expr.Call (.Name "range" p') [b, c] [] pos') = false := by rfl) :
    PP X C W m (.Compare a [.NotIn] [.Call (.Name "range" p') [b, c] [] pos'] pos) (tOp rNinRg ta (tCB rRng2 (tCons tb (tCons tc tNil)))) (b3 fa fb fc gNinRg2) := by
  refine ⟨pe_cmpR op_nin_rng ha.pe (pe_callTy cr_range2 hgr hmr boot_range (pa_cons hb.pe (pa_cons hc.pe pa_nil hs2) hs) (by decide) (by decide) hs hpl) hm, fun Γ r' hr' H0 Ox σ H E Q q => ?_⟩
  show ta σ H fun x H1 => tb σ H1 fun y H2 => tc σ H2 fun w H3 => ∃ i j, [y, w] = [V.int i, V.int j] ∧ ∀ p, H3 p = none → rNinRg x (.ref p) (upd H3 p (.rng i j)) Q
  refine ev_three ha.ev hb.ev hc.ev E hr' (fun d e c z hz er x y w H2 s E2 px py pw => ?_) fun x ex => by subst ex; exact q
  subst er
  unfold gNinRg2 at hz
  split at hz
  · rename_i i lo hi
    cases hz
    rw [rp_int px, rp_int py, rp_int pw]
    exact ⟨lo, hi, rfl, fun l hl => ⟨i, l, lo, hi, rfl, rfl, upd_same, q _ _ (s.trans (.new E2.mut hl)) mk_bool⟩⟩
  · cases hz
theorem pt_inRg2 (o : On X C k) (hgr : Gl X "range") (hmr : X.mg "range" = none) (ha : PP X C W .rd a ta fa) (hb : PP X C W .rd b tb fb) (hc : PP X C W .rd c tc fc) (hs : starEach [b, c] X.env = (false, eval b X.env) :: starEach [c] X.env := by rfl) (hs2 : starEach [c] X.env = (false, eval c X.env) :: starEach [] X.env := by rfl)
    (hpl : (backTo pos' (starEach [c] X.env)).any (·.1) = false := by rfl) (hm : behindInMarks .In (Expr.Call (.Name "range" p') [b, c] [] pos') = false := by rfl) :
    PTt X C W (.Compare a [.In] [.Call (.Name "range" p') [b, c] [] pos'] pos) (tTest (tOp rInRg ta (tCB rRng2 (tCons tb (tCons tc tNil))))) (toT (b3 fa fb fc gInRg2)) := ptt_of (pp_inRg2 o hgr hmr ha hb hc hs hs2 hpl hm) (pt_cmpR op_in_rng ha.pe (pe_callTy cr_range2 hgr hmr boot_range (pa_cons hb.pe (pa_cons hc.pe pa_nil hs2) hs) (by decide) (by decide) hs hpl) hm)
theorem pt_ninRg2 (o : On X C k) (hgr : Gl X "range") (hmr : X.mg "range" = none) (ha : PP X C W .rd a ta fa) (hb : PP X C W .rd b tb fb) (hc : PP X C W .rd c tc fc) (hs : starEach [b, c] X.env = (false, eval b X.env) :: starEach [c] X.env := by rfl) (hs2 : starEach [c] X.env = (false, eval c X.env) :: starEach [] X.env := by rfl)
    (hpl : (backTo pos' (starEach [c] X.env)).any (·.1) = false := by rfl) (hm : behindInMarks .NotIn (Expr.Call (.Name "range" p') [b, c] [] pos') = false := by rfl) :
    PTt X C W (.Compare a [.NotIn] [.Call (.Name "range" p') [b, c] [] pos'] pos) (tTest (tOp rNinRg ta (tCB rRng2 (tCons tb (tCons tc tNil))))) (toT (b3 fa fb fc gNinRg2)) := ptt_of (pp_ninRg2 o hgr hmr ha hb hc hs hs2 hpl hm) (pt_cmpR op_nin_rng ha.pe (pe_callTy cr_range2 hgr hmr boot_range (pa_cons hb.pe (pa_cons hc.pe pa_nil hs2) hs) (by decide) (by decide) hs hpl) hm)

/-! ## range(a, b, c), walked -/
abbrev rgCok (i j c : Int) : Prop := c ≠ 0 ∧ c.natAbs < 1073741824 ∧ Builtin.Range.small i j c = true ∧ 0 ≤ Builtin.Range.rangeSize i j c
def rgC (i c : Int) (n : Nat) : List PyData := (List.range n).map fun t => .int (i + (t : Nat) * c)
def gRg3 : PyData → PyData → PyData → Option PyData
  | .int i, .int j, .int c => if rgCok i j c then some (.list (rgC i c (Builtin.Range.rangeSize i j c).toNat)) else none
  | _, _, _ => none
def toI (f : PX) : PIx := fun Γ => match f Γ with
  | some (.ok (.list ds)) => some (.ok ds)
  | some (.error e) => some (.error e)
  | _ => none
theorem toI_some {Γ : Ga} {r : Except Er (List PyData)} (h : toI f Γ = some r) : ∃ r', f Γ = some r' ∧ (match r' with | .ok d => ∃ ds, d = .list ds ∧ r = .ok ds | .error e => r = .error e) := by
  unfold toI at h
  split at h
  · rename_i ds h1; cases h; exact ⟨_, h1, ds, rfl, rfl⟩
  · rename_i e h1; cases h; exact ⟨_, h1, rfl⟩
  · cases h
theorem wlk_rgC {K : PySem.W.Frag} {Hm : Hp} {i c : Int} {n : Nat} : Wlk K Hm (Itc i c n) (rgC i c n) := by
  have hl : (rgC i c n).length = n := by unfold rgC; rw [List.length_map, List.length_range]
  refine ⟨_, _, by rw [hl]; exact walk_rangeC (lo := i) (c := c), fun _ _ => trivial, fun t d H x H' hd y O s mu => ?_⟩
  obtain ⟨rfl, rfl⟩ := y
  have ht : t < n := by have := (List.getElem?_eq_some_iff.mp hd).1; rwa [hl] at this
  unfold rgC at hd
  rw [List.getElem?_map, List.getElem?_range ht] at hd
  cases hd
  exact ⟨.refl _ _, mk_int⟩
theorem pi_r3 {tg : Expr} (o : On X C k) (hg : Gl X "range") (hm : X.mg "range" = none) (ha : PP X C W .rd a ta fa) (hb : PP X C W .rd b tb fb) (hc : PP X C W .rd c tc fc) (hs : starEach [a, b, c] X.env = (false, eval a X.env) :: starEach [b, c] X.env := by rfl) (hs2 : starEach [b, c] X.env = (false, eval b X.env) :: starEach [c] X.env := by rfl) (hs3 : starEach [c] X.env = (false, eval c X.env) :: starEach [] X.env := by rfl)
    (hpl : (backTo pos (starEach [b, c] X.env)).any (·.1) = false := by rfl) : PIt X C W tg (.Call (.Name "range" p) [a, b, c] [] pos) (iRng3 (tCons ta (tCons tb (tCons tc tNil)))) (toI (b3 fa fb fc gRg3)) := ⟨pi_range3 hg hm (pa_cons ha.pe (pa_cons hb.pe (pa_cons hc.pe pa_nil hs3) hs2) hs) hs hpl, fun Γ r hr H0 Ox σ H E R q => by
  show ta σ H fun x H1 => tb σ H1 fun y H2 => tc σ H2 fun w H3 => ∃ (i j c : Int) (n : Nat), [x, y, w] = [V.int i, V.int j, V.int c] ∧ RgC i j c n ∧ R (Itc i c n) H3
  obtain ⟨r', h1, h2⟩ := toI_some hr
  refine ev_three ha.ev hb.ev hc.ev E h1 (fun d e c z hz er x y w H2 s E2 px py pw => ?_) fun x ex => ?_
  · subst er
    obtain ⟨ds, rfl, rfl⟩ := h2
    unfold gRg3 at hz
    split at hz
    · rename_i i j c
      by_cases hk : rgCok i j c
      · rw [if_pos hk] at hz; cases hz
        exact ⟨i, j, c, _, by rw [rp_int px, rp_int py, rp_int pw], ⟨hk.1, hk.2.1, hk.2.2.1, by rw [Int.toNat_of_nonneg hk.2.2.2]⟩, q _ H2 s wlk_rgC⟩
      · rw [if_neg hk] at hz; cases hz
    · cases hz
  · subst ex
    have h2 : r = .error x := h2
    subst h2
    exact q⟩

/-! ## xs[::-1], a list -/
def gRevL : PyData → Option PyData
  | .list ds => some (.list ds.reverse)
  | _ => none
theorem rpl_rev {K : PySem.W.Frag} {H : Hp} : ∀ {ds : List PyData} {vs : List V}, RpL K H ds vs → RpL K H ds.reverse vs.reverse
  | [], _, h => by simp only [RpL] at h; subst h; exact rpl_nil
  | d :: ds, _, h => by
    simp only [RpL] at h
    obtain ⟨v, r, rfl, h2, h3⟩ := h
    rw [List.reverse_cons, List.reverse_cons]
    exact rpl_app (rpl_rev h3) (rpl_cons h2 rpl_nil)
theorem pf_revL {kk : Nat} {p1 p2 p3 : Pos} (o : On X C k) (ha : PH X C W m a ta fa) : PF X C W m (.Subscript a (.Slice none none (some (.UnaryOp .USub (.Constant (.int 1) kk p1) p2)) p3) pos) (tRevL C.K ta) (b1 fa gRevL) := by
  refine ⟨by rw [← o.K]; exact pe_revL ha.pe, fun Γ r' hr' H0 Ox σ H E Q q => ?_⟩
  show ta σ H fun x H1 => ∃ a xs, x = .ref a ∧ SqL C.K H1 a xs ∧ ∀ p, H1 p = none → Q (.ref p) (upd H1 p (.lst xs.reverse))
  refine evH_one ha.ev E hr' (fun d z hz er x H2 s E2 px => ?_) fun x ex => by subst ex; exact q
  subst er
  unfold gRevL at hz
  split at hz
  · cases hz
    obtain ⟨p, xs, rfl, h1, h2⟩ := px
    exact ⟨p, xs, rfl, h1, fun l hl => q l _ H2 s hl ⟨_, rfl, rpl_rev h2⟩⟩
  · cases hz

/-! ## x *= e -/
def augM (i : Nat) (f : PX) : SX := fun Γ => match Γ[i]? with
  | some (some (.int x)) => (match f Γ with
    | some (.ok (.int y)) => if okMul x y then some (.nx (Γ.set i (some (.int (x * y))))) else none
    | some (.error e) => some (.ex e Γ)
    | _ => none)
  | _ => none
theorem st_augM (o : On X C k) (i : Nat) {x : Str} (h : PP X C W .rd e te f) (hfl : C.plain i = true := by rfl) (hi : X.N[i]? = some x := by rfl) (hx : Loc X.env.scope x := by first | exact Or.inl rfl | exact Or.inr rfl) (hf : X.fn x = true ∨ X.env.scope.names.lookup x = some .local := by first | exact .inl rfl | exact .inr rfl | assumption) :
    PSt X C W (.AugAssign (.Name x pos') .Mult e pos) (tAug i te (rI CMul fun i j => .int (i * j))) (augM i f) := ⟨ps_aug o.nd hi hx h.pe iop_mul hf, fun Γ r hr H0 Ox σ H E D q => by
  unfold augM at hr
  split at hr
  · rename_i z h0
    obtain ⟨v, e1, e2⟩ := E.val i _ h0 (pl1 hfl)
    refine ⟨v, e1, ?_⟩
    split at hr
    · rename_i y h1
      by_cases hc : okMul z y
      · rw [if_pos hc] at hr
        cases hr
        refine h.ev Γ _ h1 H0 Ox σ H E _ fun w H' s p => ⟨z, y, rp_int e2, rp_int p, hc, ?_⟩
        exact q _ H' ((E.step s).set (pl1 hfl) (pl2 hfl) mk_int)
      · rw [if_neg hc] at hr; cases hr
    · rename_i x h1
      cases hr
      exact h.ev Γ _ h1 H0 Ox σ H E _ fun H' s => q σ H' (E.step s)
    · cases hr
  · cases hr⟩
end
end Z

set_option Elab.async false
set_option linter.all false
set_option maxRecDepth 100000
set_option maxHeartbeats 4000000
namespace Z
open PySem PySem.Spec PyProof.Rows L2 GenW

/-! ## [e for t in xs if c for t1 in ys if c1] -/
theorem lc_it1 {J : It} {n : Nat} {G : Hp → Prop} {Y : Nat → Hp → V → Hp → Prop} (w : Walk J n G Y) {g : TG} {tt : TT} {te : TE} {vs : List Nat} {σ : L2.St} {H1 : Hp} {D : Addr} {Qd : Hp → Prop} (Pv : Nat → Hp → Prop) (h0 : Pv 0 H1) (hG : ∀ i H, i ≤ n → Pv i H → G H)
    (hs : ∀ i x H H', i < n → Pv i H → Y i H x H' → g x (wipe σ vs) H' fun σ2 H2 => wipe σ2 vs = wipe σ vs ∧ tt σ2 H2 fun b H3 =>
      if b = true then te σ2 H3 fun y H4 => ∃ acc, H4 D = some (.lst acc) ∧ acc.length < sizeLine ∧ Pv (i + 1) (upd H4 D (.lst (acc ++ [y]))) else Pv (i + 1) H3) (hd : ∀ H, Pv n H → Qd H) :
    ∃ W : Nat → Nat → Hp → Prop, (∃ m, W 0 m H1) ∧ ∀ i m H, W i m H →
      (J.stop i H ∧ Qd H) ∨ (J.go i H ∧ ∃ Nx : Hp → Prop, (∀ H', Nx H' → ∃ m', m' < m ∧ W (i + 1) m' H') ∧ ∀ x H', J.yld i H x H' → g x (wipe σ vs) H' fun σ2 H2 => wipe σ2 vs = wipe σ vs ∧ tt σ2 H2 fun b H3 =>
        if b = true then te σ2 H3 fun y H4 => ∃ acc, H4 D = some (.lst acc) ∧ acc.length < sizeLine ∧ Nx (upd H4 D (.lst (acc ++ [y]))) else Nx H3) := by
  refine ⟨fun i m H => m = n - i ∧ i ≤ n ∧ Pv i H, ⟨n, by simp, Nat.zero_le _, h0⟩, ?_⟩
  rintro i m H ⟨rfl, hi, p⟩
  have q := hG i H hi p
  by_cases hlt : i < n
  · refine .inr ⟨w.goes i H hlt q, Pv (i + 1), fun H' p' => ⟨n - (i + 1), by omega, rfl, hlt, p'⟩, fun x H' y => hs i x H H' hlt p (w.yields i H x H' hlt q y)⟩
  · have e : i = n := by omega
    subst e
    exact .inl ⟨w.stops H q, hd H p⟩
/-- the same with any step -/
theorem lc_itO {J : It} {n : Nat} {G : Hp → Prop} {Y : Nat → Hp → V → Hp → Prop} (w : Walk J n G Y) {T : (Hp → Prop) → V → Hp → Prop} {H1 : Hp} {Qd : Hp → Prop} (Pv : Nat → Hp → Prop) (h0 : Pv 0 H1) (hG : ∀ i H, i ≤ n → Pv i H → G H)
    (hs : ∀ i x H H', i < n → Pv i H → Y i H x H' → T (Pv (i + 1)) x H') (hd : ∀ H, Pv n H → Qd H) :
    ∃ W : Nat → Nat → Hp → Prop, (∃ m, W 0 m H1) ∧ ∀ i m H, W i m H →
      (J.stop i H ∧ Qd H) ∨ (J.go i H ∧ ∃ Nx : Hp → Prop, (∀ H', Nx H' → ∃ m', m' < m ∧ W (i + 1) m' H') ∧ ∀ x H', J.yld i H x H' → T Nx x H') := by
  refine ⟨fun i m H => m = n - i ∧ i ≤ n ∧ Pv i H, ⟨n, by simp, Nat.zero_le _, h0⟩, ?_⟩
  rintro i m H ⟨rfl, hi, p⟩
  have q := hG i H hi p
  by_cases hlt : i < n
  · refine .inr ⟨w.goes i H hlt q, Pv (i + 1), fun H' p' => ⟨n - (i + 1), by omega, rfl, hlt, p'⟩, fun x H' y => hs i x H H' hlt p (w.yields i H x H' hlt q y)⟩
  · have e : i = n := by omega
    subst e
    exact .inl ⟨w.stops H q, hd H p⟩
def lc2I (vs : List Nat) (b : BX) (ft : PTx) (fi1 : PIx) (vs1 : List Nat) (b1 : BX) (ft1 : PTx) (f : PX) (Γ : Ga) (d : PyData) : Option (List PyData) := match b d (wipeG Γ vs) with
  | none => none
  | some Γ1 => match ft Γ1 with
    | some (.ok true) => (match fi1 Γ1 with
      | some (.ok ds1) => lcL (lcI vs1 b1 ft1 f Γ1) ds1
      | _ => none)
    | some (.ok false) => some []
    | _ => none
def lc2L (item : PyData → Option (List PyData)) : List PyData → Option (List PyData)
  | [] => some []
  | d :: ds => match item d with
    | some ys => (lc2L item ds).map (ys ++ ·)
    | none => none
def lc2X (i : PIx) (vs : List Nat) (b : BX) (ft : PTx) (fi1 : PIx) (vs1 : List Nat) (b1 : BX) (ft1 : PTx) (f : PX) : PX := fun Γ => match i Γ with
  | some (.ok ds) => (match lc2L (lc2I vs b ft fi1 vs1 b1 ft1 f Γ) ds with
    | some ys => if ys.length ≤ big then some (.ok (.list ys)) else none
    | none => none)
  | some (.error e) => some (.error e)
  | none => none
theorem lc2L_snoc {item : PyData → Option (List PyData)} {d : PyData} {o : List PyData} (h : item d = some o) : ∀ {xs acc : List PyData}, lc2L item xs = some acc → lc2L item (xs ++ [d]) = some (acc ++ o)
  | [], acc, e => by
    cases e
    rw [List.nil_append, lc2L, h]
    simp [lc2L]
  | x :: xs, acc, e => by
    rw [lc2L] at e
    rw [List.cons_append, lc2L]
    cases h1 : item x with
    | none => rw [h1] at e; cases e
    | some o1 =>
      rw [h1] at e
      simp only at e ⊢
      cases h2 : lc2L item xs with
      | none => rw [h2] at e; cases e
      | some a2 =>
        rw [h2] at e
        cases e
        rw [lc2L_snoc h h2]
        simp
theorem lc2L_item {item : PyData → Option (List PyData)} : ∀ {xs acc : List PyData}, lc2L item xs = some acc → ∀ (i : Nat) (d : PyData), xs[i]? = some d → ∃ o pre, item d = some o ∧ lc2L item (xs.take i) = some pre ∧ pre.length + o.length ≤ acc.length
  | [], _, _, i, d, hd => by simp at hd
  | x :: xs, acc, e, i, d, hd => by
    rw [lc2L] at e
    cases h1 : item x with
    | none => rw [h1] at e; cases e
    | some o1 =>
      rw [h1] at e
      simp only at e
      cases h2 : lc2L item xs with
      | none => rw [h2] at e; cases e
      | some a2 =>
        rw [h2] at e
        cases e
        cases i with
        | zero =>
          have : x = d := by simpa using hd
          subst this
          exact ⟨o1, [], h1, rfl, by simp⟩
        | succ i =>
          obtain ⟨o, pre, k1, k2, k3⟩ := lc2L_item h2 i d (by simpa using hd)
          refine ⟨o, o1 ++ pre, k1, ?_, by simp; omega⟩
          rw [List.take_succ_cons, lc2L, h1]
          simp only [k2, Option.map_some]
theorem lcL_pre {item : PyData → Option (Option PyData)} : ∀ {xs acc : List PyData}, lcL item xs = some acc → ∀ i : Nat, ∃ pre, lcL item (xs.take i) = some pre ∧ pre.length ≤ acc.length
  | [], _, e, i => by cases e; exact ⟨[], by rw [List.take_nil]; rfl, Nat.le_refl _⟩
  | x :: xs, acc, e, i => by
    cases i with
    | zero => exact ⟨[], rfl, Nat.zero_le _⟩
    | succ i =>
      rw [lcL] at e
      rw [List.take_succ_cons, lcL]
      cases h1 : item x with
      | none => rw [h1] at e; cases e
      | some o1 =>
        rw [h1] at e
        cases o1 with
        | none => exact lcL_pre e i
        | some y =>
          simp only at e ⊢
          cases h2 : lcL item xs with
          | none => rw [h2] at e; cases e
          | some a2 =>
            rw [h2] at e
            cases e
            obtain ⟨pre, k1, k2⟩ := lcL_pre h2 i
            exact ⟨y :: pre, by rw [k1]; rfl, by simpa using k2⟩
section
variable {X : Cx} {C : Cf} {W : WX} {m : Md} {k : Nat} {elt tg iter tg1 iter1 : Expr} {ifs ifs1 : List Expr} {scope : Scope} {own : List (Str × Nat)} {vs1 : List Nat} {pos : Pos} {wi wi1 : TI} {fi fi1 : PIx} {g g1 : TG} {b b1 : BX} {tt tt1 : TT} {ft ft1 : PTx} {te : TE} {f : PX}
theorem ev_lc2 (hi : EvI C W wi fi) (hg : EvG C g b) (hw : WpG (own.map (·.2)) g) (ht : EvT C WF tt ft) (hi1 : EvI C WF wi1 fi1) (hg1 : EvG C g1 b1) (hw1 : WpG vs1 g1) (ht1 : EvT C WF tt1 ft1) (he : Ev C WF .st te f) (hfl : ∀ i ∈ own.map (·.2), C.plain i = true) (hv : ∀ i ∈ vs1, i ∈ own.map (·.2)) :
    EvF C W m (tLc2 wi g tt wi1 g1 tt1 te (own.map (·.2)) vs1) (lc2X fi (own.map (·.2)) b ft fi1 vs1 b1 ft1 f) := fun Γ r hr H0 Ox σ H E Q q => by
  unfold lc2X at hr
  cases h1 : fi Γ with
  | none => rw [h1] at hr; cases hr
  | some r1 =>
    rw [h1] at hr
    cases r1 with
    | error x =>
      cases hr
      exact hi Γ _ h1 H0 Ox σ H E _ q
    | ok ds =>
      simp only at hr
      cases h2 : lc2L (lc2I (own.map (·.2)) b ft fi1 vs1 b1 ft1 f Γ) ds with
      | none => rw [h2] at hr; cases hr
      | some ys =>
        rw [h2] at hr
        simp only at hr
        by_cases hz : ys.length ≤ big
        · rw [if_pos hz] at hr
          cases hr
          refine hi Γ _ h1 H0 Ox σ H E _ fun J Ha s1 w D hD => ?_
          have E1 := E.step s1
          obtain ⟨G, Y, wk, hG, hY⟩ := w
          obtain ⟨E2, oe⟩ := E1.rebase.wipe hfl
          have E3 := E2.addOx (xs := []) hD
          have hD0 : mask (ow C.fl [] σ Γ) Ha D = none := by
            unfold mask
            split
            · rfl
            · exact hD
          have gr : ∀ {Γ' : Ga} {σ' : L2.St} {H' : Hp}, EnvR C (mask (ow C.fl [] σ Γ) Ha) (D :: Ox) σ' Γ' H' → Sm (mask (ow C.fl Ox σ Γ) Ha) (mask (ow C.fl (D :: Ox) σ' Γ') H') := fun E' => by
            have h3 := E'.all
            have e : mask (D :: Ox) (mask (ow C.fl [] σ Γ) Ha) = mask (ow C.fl Ox σ Γ) Ha := by
              rw [← mask_two (Ox := Ox) (σ := σ) (Γ := Γ) (C := C)]
              funext a
              by_cases q1 : a ∈ Ox
              · rw [mask_in q1, mask_in (List.mem_cons_of_mem _ q1)]
              · rw [mask_out q1]
                by_cases q2 : a = D
                · rw [q2, mask_in List.mem_cons_self, hD0]
                · exact mask_out fun q3 => (List.mem_cons.mp q3).elim q2 q1
            rwa [e] at h3
          have inD : ∀ {σ' : L2.St} {Γ' : Ga}, D ∈ ow C.fl (D :: Ox) σ' Γ' := mem_ow.mpr (.inr List.mem_cons_self)
          refine lc_itO (T := fun Nx x H' => g x (wipe σ (own.map (·.2))) H' fun σ2 H2 => wipe σ2 (own.map (·.2)) = wipe σ (own.map (·.2)) ∧ tt σ2 H2 fun b H3 =>
            if b = true then wi1 σ2 H3 fun J1 H4 => ∃ W1 : Nat → Nat → Hp → Prop, (∃ m, W1 0 m H4) ∧ ∀ j k H, W1 j k H →
              (J1.stop j H ∧ Nx H) ∨ (J1.go j H ∧ ∃ Nx1 : Hp → Prop, (∀ H', Nx1 H' → ∃ k', k' < k ∧ W1 (j + 1) k' H') ∧ ∀ x H', J1.yld j H x H' → g1 x (wipe σ2 vs1) H' fun σ3 H5 => wipe σ3 vs1 = wipe σ2 vs1 ∧ tt1 σ3 H5 fun b H6 =>
                if b = true then te σ3 H6 fun y H7 => ∃ acc, H7 D = some (.lst acc) ∧ acc.length < sizeLine ∧ Nx1 (upd H7 D (.lst (acc ++ [y]))) else Nx1 H6)
            else Nx H3) wk (fun i H' => ∃ acc vs, lc2L (lc2I (own.map (·.2)) b ft fi1 vs1 b1 ft1 f Γ) (ds.take i) = some acc ∧ H' D = some (.lst vs) ∧ RpL C.K (mask (ow C.fl (D :: Ox) (wipe σ (own.map (·.2))) (wipeG Γ (own.map (·.2)))) H') acc vs ∧
            EnvR C (mask (ow C.fl [] σ Γ) Ha) (D :: Ox) (wipe σ (own.map (·.2))) (wipeG Γ (own.map (·.2))) H' ∧ Sm Ha H') ⟨[], [], rfl, upd_same, rpl_nil, E3, Sm.new hD⟩ (fun i H' _ ⟨_, _, _, _, _, E', _⟩ => hG H' ((gr E').trans (mask_le _ _))) (fun i x Hb Hc hlt ⟨acc, vs, k1, k2, k3, E', k5⟩ y => ?_) fun H' ⟨acc, vs, k1, k2, k3, E', k5⟩ => ?_
          · have hd : ds[i]? = some ds[i] := by simp [hlt]
            obtain ⟨s2, p2⟩ := hY i ds[i] Hb x Hc hd y _ (gr E') E'.mut
            have E4 := E'.step s2
            obtain ⟨o, pre, ho, hpre, hlen⟩ := lc2L_item h2 i ds[i] hd
            rw [k1] at hpre
            cases hpre
            have tk : ds.take (i + 1) = ds.take i ++ [ds[i]] := by rw [List.take_succ, hd]; rfl
            have acc' : lc2L (lc2I (own.map (·.2)) b ft fi1 vs1 b1 ft1 f Γ) (ds.take (i + 1)) = some (acc ++ o) := by rw [tk]; exact lc2L_snoc ho k1
            unfold lc2I at ho
            cases h3 : b ds[i] (wipeG Γ (own.map (·.2))) with
            | none => rw [h3] at ho; cases ho
            | some Γ1 =>
              rw [h3] at ho
              simp only at ho
              have wi2 : wipe (wipe σ (own.map (·.2))) (own.map (·.2)) = wipe σ (own.map (·.2)) := wipe_idem fun i hi => hi
              have hw' : ∀ Q, g x (wipe σ (own.map (·.2))) Hc Q → g x (wipe σ (own.map (·.2))) Hc (fun σ2 H2 => wipe σ2 (own.map (·.2)) = wipe σ (own.map (·.2)) ∧ Q σ2 H2) := fun Q h => by
                have := hw x _ Hc Q h
                simpa only [wi2] using this
              refine hw' _ (hg ds[i] _ Γ1 h3 _ _ _ Hc x E4 p2 _ fun σ2 E5 oe2 => ?_)
              have hkeep : ∀ {Hd : Hp}, Stp (ow C.fl (D :: Ox) σ2 Γ1) Hc Hd → Stp (ow C.fl (D :: Ox) (wipe σ (own.map (·.2))) (wipeG Γ (own.map (·.2)))) Hb Hd := fun s4 => s2.trans (by rw [← oe2]; exact s4)
              cases h4 : ft Γ1 with
              | none => rw [h4] at ho; cases ho
              | some rt =>
                rw [h4] at ho
                cases rt with
                | error x => cases ho
                | ok bb =>
                  refine ht Γ1 _ h4 _ _ σ2 Hc E5 _ fun H3 s3 => ?_
                  cases bb with
                  | false =>
                    cases ho
                    rw [if_neg Bool.false_ne_true]
                    have st := hkeep s3
                    refine ⟨acc, vs, by simpa using acc', by rw [st.2 D inD]; exact k2, RpL.sm st.1 _ _ k3, E'.step st, k5.trans (st.sm E'.mut)⟩
                  | true =>
                    rw [if_pos rfl]
                    simp only at ho
                    have E6 := E5.step s3
                    have st3 := hkeep s3
                    cases h5 : fi1 Γ1 with
                    | none => rw [h5] at ho; cases ho
                    | some ri =>
                      rw [h5] at ho
                      cases ri with
                      | error x => cases ho
                      | ok ds1 =>
                        simp only at ho
                        refine hi1 Γ1 _ h5 _ _ σ2 H3 E6 _ fun J1 He s5 w1 => ?_
                        have E7 := E6.step s5
                        obtain ⟨G1, Y1, wk1, hG1, hY1⟩ := w1
                        have hfl1 : ∀ i ∈ vs1, C.plain i = true := fun i hi => hfl i (hv i hi)
                        obtain ⟨E8, oe8⟩ := E7.wipe hfl1
                        have oo : ow C.fl (D :: Ox) (wipe σ2 vs1) (wipeG Γ1 vs1) = ow C.fl (D :: Ox) (wipe σ (own.map (·.2))) (wipeG Γ (own.map (·.2))) := oe8.trans oe2
                        have st5 : Stp (ow C.fl (D :: Ox) (wipe σ (own.map (·.2))) (wipeG Γ (own.map (·.2)))) Hb He := s2.trans (by rw [← oe2]; exact s3.trans s5)
                        refine lc_it1 (D := D) wk1 (fun j H' => ∃ acc1 vs', lcL (lcI vs1 b1 ft1 f Γ1) (ds1.take j) = some acc1 ∧ H' D = some (.lst vs') ∧ RpL C.K (mask (ow C.fl (D :: Ox) (wipe σ (own.map (·.2))) (wipeG Γ (own.map (·.2)))) H') (acc ++ acc1) vs' ∧
                          EnvR C (mask (ow C.fl [] σ Γ) Ha) (D :: Ox) (wipe σ (own.map (·.2))) (wipeG Γ (own.map (·.2))) H' ∧ EnvR C (mask (ow C.fl [] σ Γ) Ha) (D :: Ox) (wipe σ2 vs1) (wipeG Γ1 vs1) H' ∧ Sm Ha H' ∧ Sm (mask (ow C.fl (D :: Ox) (wipe σ2 vs1) (wipeG Γ1 vs1)) He) (mask (ow C.fl (D :: Ox) (wipe σ2 vs1) (wipeG Γ1 vs1)) H'))
                          ⟨[], vs, rfl, by rw [st5.2 D inD]; exact k2, by rw [List.append_nil]; exact RpL.sm st5.1 _ _ k3, E'.step st5, E8, k5.trans (st5.sm E'.mut), Sm.refl _⟩ (fun j H' _ ⟨_, _, _, _, _, _, E'', _, k7⟩ => hG1 H' ?_) (fun j x1 Hf Hg hlt1 ⟨acc1, vs', m1, m2, m3, m4, m5, m6, m7⟩ y1 => ?_) fun H' ⟨acc1, vs', m1, m2, m3, m4, m5, m6, m7⟩ => ?_
                        · rw [oe8] at k7
                          exact k7.trans (mask_le _ _)
                        · have hd1 : ds1[j]? = some ds1[j] := by simp [hlt1]
                          have m7' : Sm (mask (ow C.fl (D :: Ox) σ2 Γ1) He) (mask (ow C.fl (D :: Ox) (wipe σ2 vs1) (wipeG Γ1 vs1)) Hf) := by rw [← oe8]; exact m7
                          obtain ⟨s6, p6⟩ := hY1 j ds1[j] Hf x1 Hg hd1 y1 _ m7' m5.mut
                          have E9 := m5.step s6
                          obtain ⟨o1, ho1⟩ := lcL_item ho ds1[j] (List.getElem_mem hlt1)
                          have tk1 : ds1.take (j + 1) = ds1.take j ++ [ds1[j]] := by rw [List.take_succ, hd1]; rfl
                          have acc1' : lcL (lcI vs1 b1 ft1 f Γ1) (ds1.take (j + 1)) = some (acc1 ++ o1.toList) := by rw [tk1]; exact lcL_snoc ho1 m1
                          unfold lcI at ho1
                          cases n3 : b1 ds1[j] (wipeG Γ1 vs1) with
                          | none => rw [n3] at ho1; cases ho1
                          | some Γ2 =>
                            rw [n3] at ho1
                            simp only at ho1
                            have wi3 : wipe (wipe σ2 vs1) vs1 = wipe σ2 vs1 := wipe_idem fun i hi => hi
                            have hw1' : ∀ Q, g1 x1 (wipe σ2 vs1) Hg Q → g1 x1 (wipe σ2 vs1) Hg (fun σ3 H2 => wipe σ3 vs1 = wipe σ2 vs1 ∧ Q σ3 H2) := fun Q h => by
                              have := hw1 x1 _ Hg Q h
                              simpa only [wi3] using this
                            refine hw1' _ (hg1 ds1[j] _ Γ2 n3 _ _ _ Hg x1 E9 p6 _ fun σ3 E10 oe3 => ?_)
                            have hkeep1 : ∀ {Hd : Hp}, Stp (ow C.fl (D :: Ox) σ3 Γ2) Hg Hd → Stp (ow C.fl (D :: Ox) (wipe σ2 vs1) (wipeG Γ1 vs1)) Hf Hd := fun s4 => s6.trans (by rw [← oe3]; exact s4)
                            cases n4 : ft1 Γ2 with
                            | none => rw [n4] at ho1; cases ho1
                            | some rt =>
                              rw [n4] at ho1
                              cases rt with
                              | error x => cases ho1
                              | ok bb =>
                                refine ht1 Γ2 _ n4 _ _ σ3 Hg E10 _ fun H5 s7 => ?_
                                cases bb with
                                | false =>
                                  cases ho1
                                  rw [if_neg Bool.false_ne_true]
                                  have st := hkeep1 s7
                                  have st' := st
                                  rw [oo] at st'
                                  refine ⟨acc1, vs', by simpa using acc1', by rw [st'.2 D inD]; exact m2, RpL.sm st'.1 _ _ m3, m4.step st', m5.step st, m6.trans (st'.sm m4.mut), m7.trans st.1⟩
                                | true =>
                                  rw [if_pos rfl]
                                  simp only at ho1
                                  cases n5 : f Γ2 with
                                  | none => rw [n5] at ho1; cases ho1
                                  | some rf =>
                                    rw [n5] at ho1
                                    cases rf with
                                    | error x => cases ho1
                                    | ok yd =>
                                      cases ho1
                                      refine he Γ2 _ n5 _ _ σ3 H5 (E10.step s7) _ fun yv H4 s8 p8 => ?_
                                      have st := hkeep1 (s7.trans s8)
                                      have st' := st
                                      rw [oo] at st'
                                      have kD : H4 D = some (.lst vs') := by rw [st'.2 D inD]; exact m2
                                      have lv : vs'.length < sizeLine := by
                                        have l1 := rpl_len m3
                                        rw [List.length_append] at l1
                                        obtain ⟨pre, q1, q2⟩ := lcL_pre ho (j + 1)
                                        rw [acc1'] at q1
                                        cases q1
                                        have q3 : acc1.length + 1 ≤ o.length := by simpa using q2
                                        rw [← l1]
                                        exact Nat.lt_of_lt_of_le (show acc.length + acc1.length < big by omega) (by decide)
                                      have E11 := m4.step st'
                                      have E12 := m5.step st
                                      have inO : D ∈ ow C.fl (D :: Ox) (wipe σ2 vs1) (wipeG Γ1 vs1) := inD
                                      refine ⟨vs', kD, lv, acc1 ++ [yd], vs' ++ [yv], acc1', upd_same, ?_, E11.chgOx List.mem_cons_self hD0, E12.chgOx List.mem_cons_self hD0, sm_off' (m6.trans (st'.sm m4.mut)) hD, ?_⟩
                                      · rw [mask_upd_in inD, ← List.append_assoc]
                                        exact rpl_app (RpL.sm st'.1 _ _ m3) (rpl_cons (by rw [oe3, oo] at p8; exact p8) rpl_nil)
                                      · rw [mask_upd_in inO]
                                        exact m7.trans st.1
                        · rw [List.take_length] at m1
                          rw [ho] at m1
                          cases m1
                          exact ⟨_, vs', acc', m2, m3, m4, m6⟩
          · rw [List.take_length] at k1
            rw [h2] at k1
            cases k1
            have e : upd (mask [D] H') D (.lst vs) = H' := by
              funext a
              by_cases q1 : a = D
              · rw [q1, upd_same, k2]
              · rw [upd_ne q1]
                exact mask_out (by simpa using q1)
            have sE := sm_out (O := []) k5 hD
            have := q D (.lst vs) (mask [D] H') (s1.trans (.of_sm sE E1.mut)) (mask_in (by simp)) ⟨vs, rfl, ?_⟩
            · rwa [e] at this
            · refine RpL.sm (hm_lt (s1.trans (Stp.of_sm sE E1.mut) |>.ows E.ows)) _ _ (RpL.sm ?_ _ _ k3)
              refine .of_le fun a u ea => ?_
              obtain ⟨e1, e2⟩ := mask_some ea
              have n1 : a ∉ ow C.fl Ox σ Γ := fun z => e2 (ow_cons.mpr (.inl (by rw [oe]; exact z)))
              have n2 : a ≠ D := fun z => e2 (ow_cons.mpr (.inr z))
              rw [mask_out n1, mask_out (by simpa using n2)]
              exact e1
        · rw [if_neg hz] at hr; cases hr
theorem pf_lc2 (o : On X C k) (cm : X.calm = true) (hi : PIt X C W tg iter wi fi) (ok : BlkOk X.N X.env.scope scope own) (hw : WpG (own.map (·.2)) g) (hw1 : WpG vs1 g1) (hfl : (own.map (·.2)).all C.plain = true) (hv : (vs1.all fun i => (own.map (·.2)).contains i) = true)
    (hg : ∀ s H c cl fp, PTg (X.blk s H scope (cEnv X scope cl c) fp) C tg g b) (ht : ∀ s H c cl fp, PTf (X.blk s H scope (cEnv X scope cl c) fp) C WF ifs tt ft) (hi1 : ∀ s H c cl fp, PIt (X.blk s H scope (cEnv X scope cl c) fp) C WF tg1 iter1 wi1 fi1)
    (hg1 : ∀ s H c cl fp, PTg (X.blk s H scope (cEnv X scope cl c) fp) C tg1 g1 b1) (ht1 : ∀ s H c cl fp, PTf (X.blk s H scope (cEnv X scope cl c) fp) C WF ifs1 tt1 ft1) (he : ∀ s H c cl fp, PP (X.blk s H scope (cEnv X scope cl c) fp) C WF .st elt te f)
    (hs : ∀ x, foldedSetIterable iter X.env x = pure x := by intro _; rfl) (hs1 : ∀ env x, foldedSetIterable iter1 env x = pure x := by intro _ _; rfl) : PF X C W m (.ListComp elt [⟨tg, iter, ifs, 0⟩, ⟨tg1, iter1, ifs1, 0⟩] scope pos) (tLc2 wi g tt wi1 g1 tt1 te (own.map (·.2)) vs1) (lc2X fi (own.map (·.2)) b ft fi1 vs1 b1 ft1 f) :=
  have hv' : ∀ i ∈ vs1, i ∈ own.map (·.2) := fun i hi => by simpa using List.all_eq_true.mp hv i hi
  ⟨pe_lc2 cm o.nd hi.pe ok hv' (fun s H c cl fp => (hg s H c cl fp).pe) (fun s H c cl fp => (ht s H c cl fp).pe) (fun s H c cl fp => (hi1 s H c cl fp).pe) (fun s H c cl fp => (hg1 s H c cl fp).pe) (fun s H c cl fp => (ht1 s H c cl fp).pe) (fun s H c cl fp => (he s H c cl fp).pe) hs hs1,
    ev_lc2 hi.ev (hg X.s_0 X.H_0 0 [] []).ev hw (ht X.s_0 X.H_0 0 [] []).ev (hi1 X.s_0 X.H_0 0 [] []).ev (hg1 X.s_0 X.H_0 0 [] []).ev hw1 (ht1 X.s_0 X.H_0 0 [] []).ev (he X.s_0 X.H_0 0 [] []).ev (List.all_eq_true.mp hfl) hv'⟩
/-- name = [..] on one line -/
theorem st_setLc2 (o : On X C k) (cm : X.calm = true) (i : Nat) {y : Str} {py spos : Pos} (hi : PIt X C W tg iter wi fi) (ok : BlkOk X.N X.env.scope scope own) (hw : WpG (own.map (·.2)) g) (hw1 : WpG vs1 g1) (hfl : (own.map (·.2)).all C.plain = true) (hv : (vs1.all fun i => (own.map (·.2)).contains i) = true)
    (hg : ∀ s H c cl fp, PTg (X.blk s H scope (cEnv X scope cl c) fp) C tg g b) (ht : ∀ s H c cl fp, PTf (X.blk s H scope (cEnv X scope cl c) fp) C WF ifs tt ft) (hi1 : ∀ s H c cl fp, PIt (X.blk s H scope (cEnv X scope cl c) fp) C WF tg1 iter1 wi1 fi1)
    (hg1 : ∀ s H c cl fp, PTg (X.blk s H scope (cEnv X scope cl c) fp) C tg1 g1 b1) (ht1 : ∀ s H c cl fp, PTf (X.blk s H scope (cEnv X scope cl c) fp) C WF ifs1 tt1 ft1) (he : ∀ s H c cl fp, PP (X.blk s H scope (cEnv X scope cl c) fp) C WF .st elt te f)
    (hsw : swapsWith (.ListComp elt [⟨tg, iter, ifs, 0⟩, ⟨tg1, iter1, ifs1, 0⟩] scope pos) (some (.Name y py)) spos.line X.env = pure true) (hn : C.plain i = true := by rfl) (hN : X.N[i]? = some y := by rfl) (hl : X.env.scope.names.lookup y = some .local := by rfl)
    (hs : ∀ x, foldedSetIterable iter X.env x = pure x := by intro _; rfl) (hs1 : ∀ env x, foldedSetIterable iter1 env x = pure x := by intro _ _; rfl) : PSt X C W (.Assign [.Name y py] (.ListComp elt [⟨tg, iter, ifs, 0⟩, ⟨tg1, iter1, ifs1, 0⟩] scope pos) spos) (tAsg (tLc2 wi g tt wi1 g1 tt1 te (own.map (·.2)) vs1) (gName i)) (asgX (lc2X fi (own.map (·.2)) b ft fi1 vs1 b1 ft1 f) (bNm i)) :=
  have hv' : ∀ i ∈ vs1, i ∈ own.map (·.2) := fun i hi => by simpa using List.all_eq_true.mp hv i hi
  ⟨ps_setLc2 cm o.nd hN hl hsw hi.pe ok hv' (fun s H c cl fp => (hg s H c cl fp).pe) (fun s H c cl fp => (ht s H c cl fp).pe) (fun s H c cl fp => (hi1 s H c cl fp).pe) (fun s H c cl fp => (hg1 s H c cl fp).pe) (fun s H c cl fp => (ht1 s H c cl fp).pe) (fun s H c cl fp => (he s H c cl fp).pe) hs hs1,
    ev_asg (evF_ev (ev_lc2 hi.ev (hg X.s_0 X.H_0 0 [] []).ev hw (ht X.s_0 X.H_0 0 [] []).ev (hi1 X.s_0 X.H_0 0 [] []).ev (hg1 X.s_0 X.H_0 0 [] []).ev hw1 (ht1 X.s_0 X.H_0 0 [] []).ev (he X.s_0 X.H_0 0 [] []).ev (List.all_eq_true.mp hfl) hv')) fun d Γ Γ' hb H0 Ox σ H v E p Q q => by
      cases hb
      exact q _ (E.set (pl1 hn) (pl2 hn) p) (ow_set (pl1 hn))⟩
end
end Z

set_option Elab.async false
set_option linter.all false
set_option maxRecDepth 100000
set_option maxHeartbeats 4000000
namespace Z
open PySem PySem.Spec PyProof.Rows L2

/-! ## zip of three, lists or tuples -/
def Itz3 (k1 k2 k3 : Bool) (K : PySem.W.Frag) (a b c : Addr) : It where
  go := fun i H => ∃ xs ys zs : List V, SqK k1 K H a xs ∧ SqK k2 K H b ys ∧ SqK k3 K H c zs ∧ i < min (min xs.length ys.length) zs.length
  yld := fun i H v H' => ∃ T x y z, v = .ref T ∧ H T = none ∧ H' = upd H T (.tup [x, y, z]) ∧ (∀ xs, SqK k1 K H a xs → xs[i]? = some x) ∧ (∀ ys, SqK k2 K H b ys → ys[i]? = some y) ∧ ∀ zs, SqK k3 K H c zs → zs[i]? = some z
  stop := fun i H => ∃ xs ys zs : List V, SqK k1 K H a xs ∧ SqK k2 K H b ys ∧ SqK k3 K H c zs ∧ i = min (min xs.length ys.length) zs.length
theorem beginsK (k : Bool) (l : Addr) (items : Array Value) : Begins (.ref l) (itO k l) fun h => IsSqK k h l items := by
  cases k
  · exact begins_list l items
  · exact begins_tuple l items
theorem turn_z3 {P : Program} {w : World} {K : PySem.W.Frag} {elts : List Expr} {kk : Nat} {tpos : Pos} {k1 k2 k3 : Bool} {a b c z TI TO i1 i2 i3 : Addr} (S : ZipSep3 z TI TO i1 i2 i3 [i1, a] [i2, b] [i3, c]) (ha : a ≠ i1) (hb : b ≠ i2) (hc3 : c ≠ i3) :
    Turn P w K (.Tuple elts kk tpos) (Itz3 k1 k2 k3 K a b c) [z, TI, TO, i1, i2, i3] z (fun i h => IsZip h z TI TO .none ∧ IsTupOf3 h TI (.ref i1) (.ref i2) (.ref i3) ∧ (∃ x y u, IsTupOf3 h TO x y u) ∧ IsItK k1 h i1 a i ∧ IsItK k2 h i2 b i ∧ IsItK k3 h i3 c i) where
  mem := by simp
  obj := fun i h st d hd => by
    obtain ⟨hz, hTI, ⟨x, y, u, hTO⟩, h1, h2, h3⟩ := st
    have e' : d = z ∨ d = TI ∨ d = TO ∨ d = i1 ∨ d = i2 ∨ d = i3 := by simpa using hd
    rcases e' with q | q | q | q | q | q
    · rw [q]; exact ⟨_, hz, fun v q => nomatch q⟩
    · rw [q]; exact ⟨_, hTI, fun v q => nomatch q⟩
    · rw [q]; exact ⟨_, hTO, fun v q => nomatch q⟩
    · rw [q]; exact isItK_get h1
    · rw [q]; exact isItK_get h2
    · rw [q]; exact isItK_get h3
  keep := fun i h h' st kp => by
    obtain ⟨hz, hTI, ⟨x, y, u, hTO⟩, h1, h2, h3⟩ := st
    exact ⟨kp z (by simp) _ hz, kp TI (by simp) _ hTI, ⟨x, y, u, kp TO (by simp) _ hTO⟩, isItK_at h1 fun o q => kp i1 (by simp) o q, isItK_at h2 fun o q => kp i2 (by simp) o q, isItK_at h3 fun o q => kp i3 (by simp) o q⟩
  item := by
    intro X hP hw hK hc i pins s σ H E I hf st hg
    subst hP hw hK
    obtain ⟨hz, hTI, hTO, h1, h2, h3⟩ := st
    obtain ⟨xs, ys, zs, hqx, hqy, hqz, hlt⟩ := hg
    obtain ⟨its, rv, p⟩ := inv_sqK I hqx
    obtain ⟨its2, rv2, p2⟩ := inv_sqK I hqy
    obtain ⟨its3, rv3, p3⟩ := inv_sqK I hqz
    have l1 := rv.length
    have l2 := rv2.length
    have l3 := rv3.length
    have lt' : i < min (min its.toArray.size its2.toArray.size) its3.toArray.size := by rw [List.size_toArray, List.size_toArray, List.size_toArray]; omega
    have hx : xs[i]? = some (xs[i]'(by omega)) := by simp
    have hy : ys[i]? = some (ys[i]'(by omega)) := by simp
    have hw : zs[i]? = some (zs[i]'(by omega)) := by simp
    obtain ⟨u, hu, ru⟩ := rv.get hx
    obtain ⟨u2, hu2, ru2⟩ := rv2.get hy
    obtain ⟨u3, hu3, ru3⟩ := rv3.get hw
    have G := GoesN.zip3 (elts := elts) (x1 := kk) (pos := tpos) (A := X.A) S (drawsK (prog := X.prog) (w := X.w) (A := X.A.in1) (I.ok.hd hc) k1 i1 a ha its.toArray) (drawsK (A := X.A.in1) (I.ok.hd hc) k2 i2 b hb its2.toArray) (drawsK (A := X.A.in1) (I.ok.hd hc) k3 i3 c hc3 its3.toArray)
    refine G.goes i s _ E lt' ⟨hz, hTI, hTO, ⟨h1, p⟩, ⟨h2, p2⟩, h3, p3⟩ fun v h' tk hY st' hk htk => ?_
    obtain ⟨T, x', y', z', rfl, hT, px, py, pz, hTup⟩ := hY
    have px : its[i]? = some x' := by simpa using px
    have py : its2[i]? = some y' := by simpa using py
    have pz : its3[i]? = some z' := by simpa using pz
    rw [hu] at px ; cases px
    rw [hu2] at py ; cases py
    rw [hu3] at pz ; cases pz
    have new : ObjOk X.prog X.w (upd H T (.tup [xs[i], ys[i], zs[i]])) h' T (.tup [xs[i], ys[i], zs[i]]) :=
      ⟨by show 3 ≤ sizeLine; decide, [u, u2, u3], .cons ru (.cons ru2 (.cons ru3 .nil)), hTup⟩
    have I1 := I.turnedNew (t' := tk) (ch := [z, TO, i1, i2, i3]) hk (fun b hb => hf b (by simp at hb ⊢; rcases hb with q | q | q | q | q <;> simp [q])) hT new
    obtain ⟨z1, z2, z3, ⟨z4, _⟩, ⟨z5, _⟩, z6, _⟩ := st'
    refine ⟨.ref T, _, I1, rfl, ⟨T, _, _, _, rfl, I.hok.fresh hT, rfl, fun l hl => by rw [sqK_inj I hl hqx]; exact hx, fun l hl => by rw [sqK_inj I hl hqy]; exact hy, fun l hl => by rw [sqK_inj I hl hqz]; exact hw⟩, ⟨z1, z2, z3, z4, z5, z6⟩, fun d hd => ?_⟩
    have hlt : d < s.heap.objs.size := by
      obtain ⟨x0, y0, u0, hTO⟩ := hTO
      have e' : d = z ∨ d = TI ∨ d = TO ∨ d = i1 ∨ d = i2 ∨ d = i3 := by simpa using hd
      rcases e' with q | q | q | q | q | q
      · rw [q]; exact Heap.lt_size hz
      · rw [q]; exact Heap.lt_size hTI
      · rw [q]; exact Heap.lt_size hTO
      · rw [q]; obtain ⟨_, e1, _⟩ := isItK_get h1; exact Heap.lt_size e1
      · rw [q]; obtain ⟨_, e2, _⟩ := isItK_get h2; exact Heap.lt_size e2
      · rw [q]; obtain ⟨_, e3, _⟩ := isItK_get h3; exact Heap.lt_size e3
    rw [upd_ne (Nat.ne_of_lt (Nat.lt_of_lt_of_le hlt hT))]
    exact (hf d hd).1
  done := by
    intro X hP hw hK hc i pins s σ H E I hf st hg
    subst hP hw hK
    obtain ⟨hz, hTI, hTO, h1, h2, h3⟩ := st
    obtain ⟨xs, ys, zs, hqx, hqy, hqz, hend⟩ := hg
    obtain ⟨its, rv, p⟩ := inv_sqK I hqx
    obtain ⟨its2, rv2, p2⟩ := inv_sqK I hqy
    obtain ⟨its3, rv3, p3⟩ := inv_sqK I hqz
    have l1 := rv.length
    have l2 := rv2.length
    have l3 := rv3.length
    have G := GoesN.zip3 (elts := elts) (x1 := kk) (pos := tpos) (A := X.A) S (drawsK (prog := X.prog) (w := X.w) (A := X.A.in1) (I.ok.hd hc) k1 i1 a ha its.toArray) (drawsK (A := X.A.in1) (I.ok.hd hc) k2 i2 b hb its2.toArray) (drawsK (A := X.A.in1) (I.ok.hd hc) k3 i3 c hc3 its3.toArray)
    have e : i = min (min its.toArray.size its2.toArray.size) its3.toArray.size := by rw [List.size_toArray, List.size_toArray, List.size_toArray]; omega
    subst e
    exact G.stops s _ E ⟨hz, hTI, hTO, ⟨h1, p⟩, ⟨h2, p2⟩, h3, p3⟩ fun h' tk hk htk => I.turnedL (ch := [z, TO, i1, i2, i3]) hk fun b hb => hf b (by simp at hb ⊢; rcases hb with q | q | q | q | q <;> simp [q])
  self := fun A i s Q E st h => wpAny_pyIter_zip st.1 h
def iZip3 (K : PySem.W.Frag) (ta : TA) : L2.TI := fun σ H R => ta σ H fun vs H1 => ∃ (k1 k2 k3 : Bool) (a b c : Addr) (xs ys zs : List V), vs = [.ref a, .ref b, .ref c] ∧ SqK k1 K H1 a xs ∧ SqK k2 K H1 b ys ∧ SqK k3 K H1 c zs ∧ R (Itz3 k1 k2 k3 K a b c) H1
theorem pi_zip3 {X : Cx} {e e2 e3 : Expr} {ta : TA} {p pos tpos : Pos} {elts : List Expr} {kk : Nat} (hg : Gl X "zip") (hm : X.mg "zip" = none) (ha : PA X [e, e2, e3] ta)
    (hs : starEach [e, e2, e3] X.env = (false, eval e X.env) :: starEach [e2, e3] X.env := by rfl) (hpl : (backTo pos (starEach [e2, e3] X.env)).any (·.1) = false := by rfl) :
    PI X (.Tuple elts kk tpos) (.Call (.Name "zip" p) [e, e2, e3] [] pos) (iZip3 X.K ta) := by
  refine ⟨fun pins s σ H R I h => ?_⟩
  refine Call_ (ld_blt I hg hm PyProof.Rows.boot_zip (PyProof.Rows.callWith_type1 (thn (ha.run pos pins s σ H _ I h) fun us s1 ⟨vs, H1, I1, r1, q1⟩ => ?_) hs hpl))
  obtain ⟨k1, k2, k3, a, b, c, xs, ys, zs, ex, hqx, hqy, hqz, q⟩ := q1
  subst ex
  cases r1 with
  | cons r rr =>
    cases rr with
    | cons r' rr =>
      cases rr with
      | cons r'' rr =>
        cases rr
        cases r
        cases r'
        cases r''
        obtain ⟨its, rv, p1⟩ := inv_sqK I1 hqx
        obtain ⟨its2, rv2, p2⟩ := inv_sqK I1 hqy
        obtain ⟨its3, rv3, p3⟩ := inv_sqK I1 hqz
        have la := isSqK_lt p1
        have lb := isSqK_lt p2
        have lc := isSqK_lt p3
        refine zip_begins3 (beginsK k1 a its.toArray) (beginsK k2 b its2.toArray) (beginsK k3 c its3.toArray) p1 p2 p3 fun h' hz hTI hTO h1 h2 h3 hsz hk => wpAny_pyIter_zip hz ?_
        have I2 : Inv X pins σ H1 { s1 with heap := h' } := I1.kept (t' := s1.toks) hk
        have sep := zip_sep3 (N := s1.heap.objs.size) (fp1 := [a]) (fp2 := [b]) (fp3 := [c]) (fun x hx => by rw [List.mem_singleton.mp hx]; exact la) (fun x hx => by rw [List.mem_singleton.mp hx]; exact lb) (fun x hx => by rw [List.mem_singleton.mp hx]; exact lc)
        refine ⟨s1.heap.objs.size + 5, [s1.heap.objs.size + 5, s1.heap.objs.size + 3, s1.heap.objs.size + 4, s1.heap.objs.size, s1.heap.objs.size + 1, s1.heap.objs.size + 2], _, _, H1, rfl, I2, turn_z3 sep (Nat.ne_of_lt la) (Nat.ne_of_lt (Nat.lt_succ_of_lt lb)) (Nat.ne_of_lt (Nat.lt_of_lt_of_le lc (Nat.le_add_right _ 2))), ⟨hz, hTI, ⟨_, _, _, hTO⟩, itO_it h1, itO_it h2, itO_it h3⟩, fun d hd => ?_, q⟩
        have hle : s1.heap.objs.size ≤ d := by
          have e' : d = s1.heap.objs.size + 5 ∨ d = s1.heap.objs.size + 3 ∨ d = s1.heap.objs.size + 4 ∨ d = s1.heap.objs.size ∨ d = s1.heap.objs.size + 1 ∨ d = s1.heap.objs.size + 2 := by simpa using hd
          rcases e' with z | z | z | z | z | z
          · rw [z]; exact Nat.le_add_right _ _
          · rw [z]; exact Nat.le_add_right _ _
          · rw [z]; exact Nat.le_add_right _ _
          · rw [z]; exact Nat.le_refl _
          · rw [z]; exact Nat.le_add_right _ _
          · rw [z]; exact Nat.le_add_right _ _
        have f1 := I1.fpOk hle (I1.hok.fresh hle)
        exact f1
section
variable {K : PySem.W.Frag} {Hm : Hp}
def zip3D (xs ys zs : List PyData) : List PyData := List.zipWith (fun x yz => .tuple (x :: yz)) xs (List.zipWith (fun y z => [y, z]) ys zs)
theorem zip3D_get {xs ys zs : List PyData} {i : Nat} {d : PyData} (h : (zip3D xs ys zs)[i]? = some d) : ∃ x y z, xs[i]? = some x ∧ ys[i]? = some y ∧ zs[i]? = some z ∧ d = .tuple [x, y, z] := by
  unfold zip3D at h
  rw [List.getElem?_zipWith, List.getElem?_zipWith] at h
  cases h1 : xs[i]? with
  | none => rw [h1] at h; simp at h
  | some x =>
    cases h2 : ys[i]? with
    | none => rw [h1, h2] at h; simp at h
    | some y =>
      cases h3 : zs[i]? with
      | none => rw [h1, h2, h3] at h; simp at h
      | some z =>
        rw [h1, h2, h3] at h
        have : d = .tuple [x, y, z] := by simpa using h.symm
        exact ⟨x, y, z, rfl, rfl, rfl, this⟩
theorem wlk_z3 {k1 k2 k3 : Bool} {a b c : Addr} {xs ys zs : List V} {dxs dys dzs : List PyData} (ha : SqK k1 K Hm a xs) (hb : SqK k2 K Hm b ys) (hc : SqK k3 K Hm c zs) (h1 : RpL K Hm dxs xs) (h2 : RpL K Hm dys ys) (h3 : RpL K Hm dzs zs) : Wlk K Hm (Itz3 k1 k2 k3 K a b c) (zip3D dxs dys dzs) := by
  have len : (zip3D dxs dys dzs).length = min (min xs.length ys.length) zs.length := by unfold zip3D; rw [List.length_zipWith, List.length_zipWith, rpl_len h1, rpl_len h2, rpl_len h3]; omega
  refine ⟨fun H => SqK k1 K H a xs ∧ SqK k2 K H b ys ∧ SqK k3 K H c zs, fun i H x H' => ∃ T y z u, x = .ref T ∧ H T = none ∧ H' = upd H T (.tup [y, z, u]) ∧ xs[i]? = some y ∧ ys[i]? = some z ∧ zs[i]? = some u, ⟨fun i H hi g => ?_, fun H g => ⟨xs, ys, zs, g.1, g.2.1, g.2.2, len⟩, fun i H x H' hi g y => ?_⟩, fun H s => ⟨sqK_sm s ha, sqK_sm s hb, sqK_sm s hc⟩, fun i d H x H' hd y O s mu => ?_⟩
  · rw [len] at hi
    exact ⟨xs, ys, zs, g.1, g.2.1, g.2.2, hi⟩
  · obtain ⟨T, x, z, u, e1, e2, e3, e4, e5, e6⟩ := y
    exact ⟨T, x, z, u, e1, e2, e3, e4 xs g.1, e5 ys g.2.1, e6 zs g.2.2⟩
  · obtain ⟨T, x, z, u, rfl, e2, rfl, e4, e5, e6⟩ := y
    obtain ⟨dx, dy, dz, q1, q2, q3, rfl⟩ := zip3D_get hd
    obtain ⟨x', k1, r1⟩ := rpl_get h1 q1
    obtain ⟨y', k2, r2⟩ := rpl_get h2 q2
    obtain ⟨z', k3, r3⟩ := rpl_get h3 q3
    rw [e4] at k1 ; cases k1
    rw [e5] at k2 ; cases k2
    rw [e6] at k3 ; cases k3
    refine ⟨.new mu e2, ?_⟩
    exact new_tup (K := K) (m := .st) (O := O) (Ox := []) (H := H) (ds := [dx, dy, dz]) (xs := [x, z, u]) (p := T) ⟨mu, fun _ z => nomatch z⟩ e2 (rpl_cons (r1.sm s) (rpl_cons (r2.sm s) (rpl_cons (r3.sm s) rpl_nil)))
end
def gZip3 (x y z : PyData) : Option PyData := match seqD x, seqD y, seqD z with
  | some xs, some ys, some zs => some (.list (zip3D xs ys zs))
  | _, _, _ => none
section
variable {X : Cx} {C : Cf} {W : WX} {k : Nat} {a b c : Expr} {ta tb tc : TE} {fa fb fc : PX} {p pos tpos : Pos} {elts : List Expr} {kk : Nat}
theorem pi_zipZ (o : On X C k) (hg : Gl X "zip") (hm : X.mg "zip" = none) (ha : PP X C W .st a ta fa) (hb : PP X C W .st b tb fb) (hc : PP X C W .st c tc fc) (hs : starEach [a, b, c] X.env = (false, eval a X.env) :: starEach [b, c] X.env := by rfl) (hs2 : starEach [b, c] X.env = (false, eval b X.env) :: starEach [c] X.env := by rfl) (hs3 : starEach [c] X.env = (false, eval c X.env) :: starEach [] X.env := by rfl) (hpl : (backTo pos (starEach [b, c] X.env)).any (·.1) = false := by rfl) :
    PIt X C W (.Tuple elts kk tpos) (.Call (.Name "zip" p) [a, b, c] [] pos) (iZip3 C.K (tCons ta (tCons tb (tCons tc tNil)))) (toI (b3 fa fb fc gZip3)) := ⟨by rw [← o.K]; exact pi_zip3 hg hm (pa_cons ha.pe (pa_cons hb.pe (pa_cons hc.pe pa_nil hs3) hs2) hs) hs hpl, fun Γ r hr H0 Ox σ H E R q => by
  show ta σ H fun x H1 => tb σ H1 fun y H2 => tc σ H2 fun w H3 => ∃ (k1 k2 k3 : Bool) (a b c : Addr) (xs ys zs : List V), [x, y, w] = [V.ref a, V.ref b, V.ref c] ∧ SqK k1 C.K H3 a xs ∧ SqK k2 C.K H3 b ys ∧ SqK k3 C.K H3 c zs ∧ R (Itz3 k1 k2 k3 C.K a b c) H3
  obtain ⟨r', h1, h2⟩ := toI_some hr
  refine ev_three ha.ev hb.ev hc.ev E h1 (fun d e c z hz er x y w H2 s E2 px py pw => ?_) fun x ex => ?_
  · subst er
    obtain ⟨ds, rfl, rfl⟩ := h2
    unfold gZip3 at hz
    split at hz
    · rename_i xs ys zs q1 q2 q3
      cases hz
      obtain ⟨c1, l1, vs1, rfl, k1, k2⟩ := rp_seqD q1 px
      obtain ⟨c2, l2, vs2, rfl, k3, k4⟩ := rp_seqD q2 py
      obtain ⟨c3, l3, vs3, rfl, k5, k6⟩ := rp_seqD q3 pw
      exact ⟨c1, c2, c3, l1, l2, l3, vs1, vs2, vs3, rfl, sqK_sm (mask_le _ _) k1, sqK_sm (mask_le _ _) k3, sqK_sm (mask_le _ _) k5, q _ H2 s (wlk_z3 k1 k3 k5 k2 k4 k6)⟩
    · cases hz
  · subst ex
    have h2 : r = .error x := h2
    subst h2
    exact q⟩
end
end Z

set_option Elab.async false
set_option linter.all false
set_option maxRecDepth 100000
set_option maxHeartbeats 4000000
namespace Z
open PySem PySem.Spec PyProof.Rows L2
section
variable {X : Cx} {C : Cf} {W : WX} {m : Md} {k j n : Nat} {x : Str} {F : FX} {p pos : Pos}
/-! ## a call without arguments -/
theorem pp_call0 (D : Df X.prog X.w X.base C.toCb x j n F) (o : On X C k) (cm : X.calm = true) (hjk : j ≤ k) (tk : Takes X W) (hg : Gl X x) (hdb : (x == ("__debug__" : Str)) = false := by decide) :
    PP X C W m (.Call (.Name x p) [] [] pos) (tCallS (spF C.toCb n F) (WE W) tNil) (callX aNil F) := by
  obtain ⟨f, fd, ps, h1, h2, h3, h4⟩ := D.ex
  refine ⟨⟨fun pins s σ H Q I h => ?_⟩, ev_sp (par_nil (X := X)).ev D.ln⟩
  have h3 : Binds C.K fd ps [] := .all h3
  rw [← o.K] at h2 h3 h4
  rw [← o.mg] at h1 h4
  refine wpAny_Call_Name_kw (ld_glob I hg h1 ?_ hdb)
  exact PySem.W.callWith_K0 I.kIn h2 (run_fnS (us := []) h4 ((o.rm cm).mono hjk) h3 (passAt tk σ) I .nil h)
end
end Z

set_option Elab.async false
set_option linter.all false
set_option maxRecDepth 100000
set_option maxHeartbeats 4000000
namespace Z
open PySem PySem.Spec PyProof.Rows L2
section
variable {X : Cx} {C : Cf} {W : WX} {m : Md} {k : Nat} {x : Str} {p pos : Pos} {a b e : Expr} {ta tb te : TE} {fa fb fe : PX}
/-! ## < of two data of one shape -/
def rLtD (K : PySem.W.Frag) : R2 := fun x y H Q => ∃ d e, Dp K H x d ∧ Dp K H y e ∧ PySem.W.alike d e = true ∧ d ≠ .none ∧ d.depth ≤ 60 ∧ Q (.bl (PySem.W.dataLt d e)) H
theorem op_ltD (hu : X.A.units + 64 < cLine) : OpR X (compareOp .Lt) (rLtD X.K) := by
  intro pins s σ H x y v u Q I rx ry h
  obtain ⟨d, e, hd, he, sd, sn, sz, q⟩ := h
  obtain ⟨as, r1⟩ := Dp.reads I d x v hd rx
  obtain ⟨bs, r2⟩ := Dp.reads I e y u he ry
  exact PySem.W.lt_data r1 r2 sd sn (by have := Nat.min_le_left d.depth e.depth; omega) ⟨.bl _, H, I, rfl, q⟩
def rLtX (K : PySem.W.Frag) : R2 := fun x y H Q => rLtI x y H Q ∨ rLtD K x y H Q
theorem op_ltX (hu : X.A.units + 200 < cLine) : OpR X (compareOp .Lt) (rLtX X.K) := op_lt.or (op_ltD (by omega))
def gLtX : PyData → PyData → Option PyData
  | .tuple ds, .tuple es => if (PyData.tuple ds).canLay0 = true ∧ (PyData.tuple es).canLay0 = true ∧ PySem.W.alike (.tuple ds) (.tuple es) = true ∧ (PyData.tuple ds).depth ≤ 60 then some (.bool (PySem.W.dataLt (.tuple ds) (.tuple es))) else none
  | .int i, .int j => some (.bool (decide (i < j)))
  | _, _ => none
theorem rb_ltX {K : PySem.W.Frag} : RB K m (rLtX K) gLtX := by
  intro d e z hz O Ox x y H mu px py Q q
  unfold gLtX at hz
  split at hz
  · split at hz
    · rename_i hc
      cases hz
      exact .inr ⟨_, _, rp_dp _ _ hc.1 (px.sm hm_le), rp_dp _ _ hc.2.1 (py.sm hm_le), hc.2.2.1, (by intro h; cases h), hc.2.2.2, q _ _ (.refl _ _) mk_bool⟩
    · cases hz
  · cases hz
    rw [rp_int px, rp_int py]
    exact .inl ⟨_, _, rfl, rfl, q _ _ (.refl _ _) mk_bool⟩
  · cases hz
theorem pp_ltX (o : On X C k) (ha : PP X C W m a ta fa) (hb : PP X C W m b tb fb) : PP X C W m (.Compare a [.Lt] [b] pos) (tOp (rLtX C.K) ta tb) (b2 fa fb gLtX) := pp_cmp (by rw [← o.K]; exact op_ltX o.un) rb_ltX ha hb (nomark _)
theorem pt_ltX (o : On X C k) (ha : PP X C W .rd a ta fa) (hb : PP X C W .rd b tb fb) : PTt X C W (.Compare a [.Lt] [b] pos) (tTest (tOp (rLtX C.K) ta tb)) (toT (b2 fa fb gLtX)) := ptt_of (pp_ltX o ha hb) (pt_cmpR (by rw [← o.K]; exact op_ltX o.un) ha.pe hb.pe (nomark _))

/-! ## math.factorial -/
def rFact : List V → Hp → VK → Prop := fun vs H Q => ∃ a : Int, vs = [.int a] ∧ (0 ≤ a ∧ a ≤ 12) ∧ Q (.int ((Builtin.Math.factorialNat a.toNat : Nat) : Int)) H
theorem fact_small : ∀ a : Nat, a ≤ 12 → (((Builtin.Math.factorialNat a : Nat) : Int)).natAbs.log2 < bitsLine := by decide +kernel
theorem cr_fact : CallR X (.builtin "math.factorial") rFact := by
  intro pins s σ H vs us Q I r h
  obtain ⟨a, rfl, h1, q⟩ := h
  obtain ⟨t, rfl⟩ : ∃ t, us = [Value.int a t] := by
    cases r with
    | cons r1 r2 =>
      cases r2
      obtain ⟨t, rfl⟩ := r1
      exact ⟨t, rfl⟩
  refine PySem.W.mg_factorial ?_ ?_ ?_ ?_ ⟨.int _, H, I.tok _, ⟨_, rfl⟩, q⟩
  · exact fun h2 => absurd (Int.lt_of_lt_of_le h2 h1.2) (by decide)
  · omega
  · exact fun h2 => absurd (Int.lt_of_lt_of_le h2 h1.2) (by decide)
  · exact fact_small a.toNat (by omega)
def gFact : PyData → Option PyData
  | .int i => if 0 ≤ i ∧ i ≤ 12 then some (.int ((Builtin.Math.factorialNat i.toNat : Nat) : Int)) else none
  | _ => none
theorem pp_fact (o : On X C k) (hg : Gl X x) (hm : X.mg x = some (.builtin "math.factorial")) (ha : PP X C W .rd a ta fa) (hs : starEach [a] X.env = (false, eval a X.env) :: starEach [] X.env := by rfl) (hdb : (x == ("__debug__" : Str)) = false := by decide) :
    PP X C W m (.Call (.Name x p) [a] [] pos) (tCB rFact (tCons ta tNil)) (b1 fa gFact) := by
  refine ⟨pe_callBfun cr_fact hg hm (pa_cons ha.pe pa_nil hs) hdb hs, fun Γ r' hr' H0 Ox σ H E Q q => ?_⟩
  show ta σ H fun x H1 => ∃ a : Int, [x] = [V.int a] ∧ (0 ≤ a ∧ a ≤ 12) ∧ Q (.int ((Builtin.Math.factorialNat a.toNat : Nat) : Int)) H1
  refine ev_one ha.ev E hr' (fun d z hz er x H2 s E2 px => ?_) fun x ex => by subst ex; exact q
  subst er
  unfold gFact at hz
  split at hz
  · split at hz
    · rename_i i hc
      cases hz
      exact ⟨i, by rw [rp_int px], hc, q _ H2 s mk_int⟩
    · cases hz
  · cases hz
end
end Z

set_option Elab.async false
set_option linter.all false
set_option maxRecDepth 100000
set_option maxHeartbeats 4000000
namespace Z
open PySem PySem.Spec PyProof.Rows L2

/-! ## zip of two: lists, tuples, texts -/
inductive Sc where
  | sq (k : Bool) (a : Addr)
  | tx (x : Str)
def sgV (x : Str) : List V := x.cps.toList.map fun c => V.str ⟨#[c]⟩
def Sc.v : Sc → V
  | .sq _ a => .ref a
  | .tx x => .str x
def Sc.hs (K : PySem.W.Frag) (H : Hp) : Sc → List V → Prop
  | .sq k a, xs => SqK k K H a xs
  | .tx x, xs => xs = sgV x
def Sc.st (t : Tok) (it : Addr) (h : Heap) : Sc → Nat → Prop
  | .sq k a, i => IsItK k h it a i
  | .tx x, i => h.IsStrIter it (strIterType x) x t i
def Sc.ob (t : Tok) : Sc → Obj
  | .sq k a => itO k a
  | .tx x => { cls := .type (strIterType x), data := .fields #[.str x t, .int 0 0] }
def Sc.fp (it : Addr) : Sc → List Addr
  | .sq _ a => [it, a]
  | .tx _ => [it]
def Sc.ne (it : Addr) : Sc → Prop
  | .sq _ a => a ≠ it
  | .tx _ => True
def Sc.val (t : Tok) : Sc → Value
  | .sq _ a => .ref a
  | .tx x => .str x t
theorem Sc.st_at {c : Sc} {t : Tok} {h h' : Heap} {it : Addr} {i : Nat} (x : c.st t it h i) (e : ∀ o, h.get? it = some o → h'.get? it = some o) : c.st t it h' i := by
  cases c with
  | sq k a => exact isItK_at x e
  | tx s =>
    obtain ⟨o, ho, r⟩ := (x : h.IsStrIter it (strIterType s) s t i)
    exact ⟨o, e o ho, r⟩
theorem Sc.st_get {c : Sc} {t : Tok} {h : Heap} {it : Addr} {i : Nat} (x : c.st t it h i) : ∃ o, h.get? it = some o ∧ ∀ v, o.data ≠ .cell v := by
  cases c with
  | sq k a => exact isItK_get x
  | tx s =>
    obtain ⟨o, ho, _, d⟩ := (x : h.IsStrIter it (strIterType s) s t i)
    exact ⟨o, ho, fun v q => by rw [d] at q; cases q⟩
theorem Sc.hs_sm {K : PySem.W.Frag} {H H' : Hp} {c : Sc} {xs : List V} (s : Sm H H') (h : c.hs K H xs) : c.hs K H' xs := by
  cases c with
  | sq k a => exact sqK_sm s h
  | tx x => exact h
theorem Sc.hs_inj {X : Cx} {pins : List (Addr × Obj)} {σ : L2.St} {H : Hp} {s : Shared} {c : Sc} {xs ys : List V} (I : Inv X pins σ H s) (h : c.hs X.K H xs) (h' : c.hs X.K H ys) : xs = ys := by
  cases c with
  | sq k a => exact sqK_inj I h h'
  | tx x => exact (h : xs = _).trans (h' : ys = _).symm
theorem sc_draws {X : Cx} {pins : List (Addr × Obj)} {σ : L2.St} {H : Hp} {s : Shared} (I : Inv X pins σ H s) (hh : X.A.in1.handled = none) (t : Tok) (it : Addr) {c : Sc} {xs : List V} (h : c.hs X.K H xs) (hne : c.ne it) :
    ∃ (P : Nat → Value → Prop) (St : Nat → Heap → Prop), Draws X.prog X.w X.A.in1 it (c.fp it) xs.length P St ∧ (∀ i, c.st t it s.heap i → St i s.heap) ∧ (∀ i h', St i h' → c.st t it h' i) ∧ ∀ i v, P i v → ∃ x, xs[i]? = some x ∧ RelV x v := by
  cases c with
  | sq k a =>
    obtain ⟨its, rv, p⟩ := inv_sqK I h
    have D := drawsK (prog := X.prog) (w := X.w) (A := X.A.in1) hh k it a hne its.toArray
    rw [List.size_toArray, ← rv.length] at D
    refine ⟨_, _, D, fun i x => ⟨x, p⟩, fun i h' x => x.1, fun i v e => ?_⟩
    have e : its[i]? = some v := by simpa using e
    have hi : i < xs.length := by rw [rv.length]; exact (List.getElem?_eq_some_iff.mp e).1
    obtain ⟨u, hu, ru⟩ := rv.get (List.getElem?_eq_getElem hi)
    rw [e] at hu
    cases hu
    exact ⟨_, List.getElem?_eq_getElem hi, ru⟩
  | tx x =>
    have h : xs = sgV x := h
    have D := Draws.text (prog := X.prog) (w := X.w) (A := X.A.in1) hh it x t
    have l : xs.length = x.cps.size := by rw [h, sgV, List.length_map, Array.length_toList]
    rw [← l] at D
    refine ⟨_, _, D, fun i x => x, fun i h' x => x, fun i v e => ?_⟩
    obtain ⟨c, u, e1, rfl⟩ := e
    refine ⟨.str ⟨#[c]⟩, ?_, ⟨u, rfl⟩⟩
    rw [h, sgV, List.getElem?_map, Array.getElem?_toList, e1]
    rfl
def Itz2 (c1 c2 : Sc) (K : PySem.W.Frag) : It where
  go := fun i H => ∃ xs ys : List V, c1.hs K H xs ∧ c2.hs K H ys ∧ i < min xs.length ys.length
  yld := fun i H v H' => ∃ T x y, v = .ref T ∧ H T = none ∧ H' = upd H T (.tup [x, y]) ∧ (∀ xs, c1.hs K H xs → xs[i]? = some x) ∧ (∀ ys, c2.hs K H ys → ys[i]? = some y)
  stop := fun i H => ∃ xs ys : List V, c1.hs K H xs ∧ c2.hs K H ys ∧ i = min xs.length ys.length
theorem turn_z2 {P : Program} {w : World} {K : PySem.W.Frag} {elts : List Expr} {kk : Nat} {tpos : Pos} {c1 c2 : Sc} {t1 t2 : Tok} {z TI TO i1 i2 : Addr} (S : ZipSep2 z TI TO i1 i2 (c1.fp i1) (c2.fp i2)) (ha : c1.ne i1) (hb : c2.ne i2) :
    Turn P w K (.Tuple elts kk tpos) (Itz2 c1 c2 K) [z, TI, TO, i1, i2] z (fun i h => IsZip h z TI TO .none ∧ IsTupOf2 h TI (.ref i1) (.ref i2) ∧ (∃ x y, IsTupOf2 h TO x y) ∧ c1.st t1 i1 h i ∧ c2.st t2 i2 h i) where
  mem := by simp
  obj := fun i h st d hd => by
    obtain ⟨hz, hTI, ⟨x, y, hTO⟩, h1, h2⟩ := st
    have e' : d = z ∨ d = TI ∨ d = TO ∨ d = i1 ∨ d = i2 := by simpa using hd
    rcases e' with q | q | q | q | q
    · rw [q]; exact ⟨_, hz, fun v q => nomatch q⟩
    · rw [q]; exact ⟨_, hTI, fun v q => nomatch q⟩
    · rw [q]; exact ⟨_, hTO, fun v q => nomatch q⟩
    · rw [q]; exact Sc.st_get h1
    · rw [q]; exact Sc.st_get h2
  keep := fun i h h' st kp => by
    obtain ⟨hz, hTI, ⟨x, y, hTO⟩, h1, h2⟩ := st
    exact ⟨kp z (by simp) _ hz, kp TI (by simp) _ hTI, ⟨x, y, kp TO (by simp) _ hTO⟩, Sc.st_at h1 fun o q => kp i1 (by simp) o q, Sc.st_at h2 fun o q => kp i2 (by simp) o q⟩
  item := by
    intro X hP hw hK hc i pins s σ H E I hf st hg
    subst hP hw hK
    obtain ⟨hz, hTI, hTO, h1, h2⟩ := st
    obtain ⟨xs, ys, hqx, hqy, hlt⟩ := hg
    obtain ⟨P1, St1, D1, s1, b1, r1⟩ := sc_draws I (I.ok.hd hc) t1 i1 hqx ha
    obtain ⟨P2, St2, D2, s2, b2, r2⟩ := sc_draws I (I.ok.hd hc) t2 i2 hqy hb
    have G := GoesN.zip2 (elts := elts) (x1 := kk) (pos := tpos) (A := X.A) S D1 D2
    refine G.goes i s _ E hlt ⟨hz, hTI, hTO, s1 i h1, s2 i h2⟩ fun v h' tk hY st' hk htk => ?_
    obtain ⟨T, x', y', rfl, hT, px, py, hTup⟩ := hY
    obtain ⟨x, ex, rx⟩ := r1 i x' px
    obtain ⟨y, ey, ry⟩ := r2 i y' py
    have new : ObjOk X.prog X.w (upd H T (.tup [x, y])) h' T (.tup [x, y]) :=
      ⟨by show 2 ≤ sizeLine; decide, [x', y'], .cons rx (.cons ry .nil), hTup⟩
    have I1 := I.turnedNew (t' := tk) (ch := [z, TO, i1, i2]) hk (fun b hb => hf b (by simp at hb ⊢; rcases hb with q | q | q | q <;> simp [q])) hT new
    obtain ⟨z1, z2, z3, z4, z5⟩ := st'
    refine ⟨.ref T, _, I1, rfl, ⟨T, _, _, rfl, I.hok.fresh hT, rfl, fun l hl => by rw [Sc.hs_inj I hl hqx]; exact ex, fun l hl => by rw [Sc.hs_inj I hl hqy]; exact ey⟩, ⟨z1, z2, z3, b1 _ _ z4, b2 _ _ z5⟩, fun d hd => ?_⟩
    have hlt : d < s.heap.objs.size := by
      obtain ⟨x0, y0, hTO⟩ := hTO
      have e' : d = z ∨ d = TI ∨ d = TO ∨ d = i1 ∨ d = i2 := by simpa using hd
      rcases e' with q | q | q | q | q
      · rw [q]; exact Heap.lt_size hz
      · rw [q]; exact Heap.lt_size hTI
      · rw [q]; exact Heap.lt_size hTO
      · rw [q]; obtain ⟨_, e1, _⟩ := Sc.st_get h1; exact Heap.lt_size e1
      · rw [q]; obtain ⟨_, e2, _⟩ := Sc.st_get h2; exact Heap.lt_size e2
    rw [upd_ne (Nat.ne_of_lt (Nat.lt_of_lt_of_le hlt hT))]
    exact (hf d hd).1
  done := by
    intro X hP hw hK hc i pins s σ H E I hf st hg
    subst hP hw hK
    obtain ⟨hz, hTI, hTO, h1, h2⟩ := st
    obtain ⟨xs, ys, hqx, hqy, hend⟩ := hg
    obtain ⟨P1, St1, D1, s1, b1, r1⟩ := sc_draws I (I.ok.hd hc) t1 i1 hqx ha
    obtain ⟨P2, St2, D2, s2, b2, r2⟩ := sc_draws I (I.ok.hd hc) t2 i2 hqy hb
    have G := GoesN.zip2 (elts := elts) (x1 := kk) (pos := tpos) (A := X.A) S D1 D2
    subst hend
    exact G.stops s _ E ⟨hz, hTI, hTO, s1 _ h1, s2 _ h2⟩ fun h' tk hk htk => I.turnedL (ch := [z, TO, i1, i2]) hk fun b hb => hf b (by simp at hb ⊢; rcases hb with q | q | q | q <;> simp [q])
  self := fun A i s Q E st h => wpAny_pyIter_zip st.1 h
theorem sc_begins {X : Cx} {pins : List (Addr × Obj)} {σ : L2.St} {H : Hp} {s : Shared} (I : Inv X pins σ H s) (t : Tok) {c : Sc} {xs : List V} (h : c.hs X.K H xs) :
    ∃ Hs : Heap → Prop, Begins (c.val t) (c.ob t) Hs ∧ Hs s.heap ∧ (∀ b ∈ c.fp 0, b = 0 ∨ b < s.heap.objs.size) ∧ ∀ h' it, h'.get? it = some (c.ob t) → c.st t it h' 0 := by
  cases c with
  | sq k a =>
    obtain ⟨its, rv, p⟩ := inv_sqK I h
    refine ⟨_, beginsK k a its.toArray, p, fun b hb => ?_, fun h' it e => itO_it e⟩
    rcases List.mem_cons.mp hb with q | q
    · exact .inl q
    · rw [List.mem_singleton.mp q]; exact .inr (isSqK_lt p)
  | tx x => exact ⟨_, begins_text x t, trivial, fun b hb => .inl (List.mem_singleton.mp hb), fun h' it e => ⟨_, e, rfl, rfl⟩⟩
theorem Sc.rel {c : Sc} {u : Value} (r : RelV c.v u) : ∃ t, u = c.val t := by
  cases c with
  | sq k a => exact ⟨0, r⟩
  | tx x => obtain ⟨t, e⟩ := r; exact ⟨t, e⟩
def Sc.own : Sc → List Addr
  | .sq _ a => [a]
  | .tx _ => []
theorem Sc.fp_eq (c : Sc) (it : Addr) : c.fp it = it :: c.own := by cases c <;> rfl
theorem Sc.ne_of {c : Sc} {it : Addr} (h : ∀ b ∈ c.own, b ≠ it) : c.ne it := by
  cases c with
  | sq k a => exact h a List.mem_cons_self
  | tx x => trivial
def iZip2 (K : PySem.W.Frag) (ta : TA) : L2.TI := fun σ H R => ta σ H fun vs H1 => ∃ (c1 c2 : Sc) (xs ys : List V), vs = [c1.v, c2.v] ∧ c1.hs K H1 xs ∧ c2.hs K H1 ys ∧ R (Itz2 c1 c2 K) H1
theorem pi_zipS {X : Cx} {e e2 : Expr} {ta : TA} {p pos tpos : Pos} {elts : List Expr} {kk : Nat} (hg : Gl X "zip") (hm : X.mg "zip" = none) (ha : PA X [e, e2] ta)
    (hs : starEach [e, e2] X.env = (false, eval e X.env) :: starEach [e2] X.env := by rfl) (hpl : (backTo pos (starEach [e2] X.env)).any (·.1) = false := by rfl) :
    PI X (.Tuple elts kk tpos) (.Call (.Name "zip" p) [e, e2] [] pos) (iZip2 X.K ta) := by
  refine ⟨fun pins s σ H R I h => ?_⟩
  refine Call_ (ld_blt I hg hm PyProof.Rows.boot_zip (PyProof.Rows.callWith_type1 (thn (ha.run pos pins s σ H _ I h) fun us s1 ⟨vs, H1, I1, r1, q1⟩ => ?_) hs hpl))
  obtain ⟨c1, c2, xs, ys, ex, hqx, hqy, q⟩ := q1
  subst ex
  cases r1 with
  | cons r rr =>
    cases rr with
    | cons r' rr =>
      cases rr
      obtain ⟨t1, rfl⟩ := Sc.rel r
      obtain ⟨t2, rfl⟩ := Sc.rel r'
      obtain ⟨Hs1, B1, p1, l1, k1⟩ := sc_begins I1 t1 hqx
      obtain ⟨Hs2, B2, p2, l2, k2⟩ := sc_begins I1 t2 hqy
      have o1 : ∀ b ∈ c1.own, b < s1.heap.objs.size := by
        cases c1 with
        | sq k a => obtain ⟨its, rv, p⟩ := inv_sqK I1 hqx; intro b hb; rw [List.mem_singleton.mp hb]; exact isSqK_lt p
        | tx x => intro b hb; cases hb
      have o2 : ∀ b ∈ c2.own, b < s1.heap.objs.size := by
        cases c2 with
        | sq k a => obtain ⟨its, rv, p⟩ := inv_sqK I1 hqy; intro b hb; rw [List.mem_singleton.mp hb]; exact isSqK_lt p
        | tx x => intro b hb; cases hb
      refine zip_begins2 B1 B2 p1 p2 fun h' hz hTI hTO h1 h2 hsz hk => wpAny_pyIter_zip hz ?_
      have I2 : Inv X pins σ H1 { s1 with heap := h' } := I1.kept (t' := s1.toks) hk
      have sep := zip_sep2 (N := s1.heap.objs.size) (fp1 := c1.own) (fp2 := c2.own) o1 o2
      rw [← Sc.fp_eq, ← Sc.fp_eq] at sep
      refine ⟨s1.heap.objs.size + 4, [s1.heap.objs.size + 4, s1.heap.objs.size + 2, s1.heap.objs.size + 3, s1.heap.objs.size, s1.heap.objs.size + 1], _, _, H1, rfl, I2, turn_z2 (t1 := t1) (t2 := t2) sep (Sc.ne_of fun b hb => Nat.ne_of_lt (o1 b hb)) (Sc.ne_of fun b hb => Nat.ne_of_lt (Nat.lt_succ_of_lt (o2 b hb))), ⟨hz, hTI, ⟨_, _, hTO⟩, k1 _ _ h1, k2 _ _ h2⟩, fun d hd => ?_, q⟩
      have hle : s1.heap.objs.size ≤ d := by
        have e' : d = s1.heap.objs.size + 4 ∨ d = s1.heap.objs.size + 2 ∨ d = s1.heap.objs.size + 3 ∨ d = s1.heap.objs.size ∨ d = s1.heap.objs.size + 1 := by simpa using hd
        rcases e' with z | z | z | z | z
        · rw [z]; exact Nat.le_add_right _ _
        · rw [z]; exact Nat.le_add_right _ _
        · rw [z]; exact Nat.le_add_right _ _
        · rw [z]; exact Nat.le_refl _
        · rw [z]; exact Nat.le_add_right _ _
      exact I1.fpOk hle (I1.hok.fresh hle)
end Z

set_option Elab.async false
set_option linter.all false
set_option maxRecDepth 100000
set_option maxHeartbeats 4000000
namespace Z
open PySem PySem.Spec PyProof.Rows L2

/-! ## zip of two, walked -/
def sgD (x : Str) : List PyData := x.cps.toList.map fun c => PyData.str ⟨#[c]⟩
def srcD : PyData → Option (List PyData)
  | .list xs => some xs
  | .tuple xs => some xs
  | .str x => some (sgD x)
  | _ => none
theorem rpl_sg {K : PySem.W.Frag} {H : Hp} (x : Str) : RpL K H (sgD x) (sgV x) := by
  unfold sgD sgV
  induction x.cps.toList with
  | nil => exact rpl_nil
  | cons c cs ih => exact rpl_cons mk_str ih
theorem rp_srcD {K : PySem.W.Frag} {H : Hp} {d : PyData} {ds : List PyData} {v : V} (h : srcD d = some ds) (p : Rp K H d v) : ∃ (c : Sc) (xs : List V), v = c.v ∧ c.hs K H xs ∧ RpL K H ds xs := by
  unfold srcD at h
  split at h
  · cases h; obtain ⟨l, vs, e, k1, k2⟩ := rp_lst p; exact ⟨.sq false l, vs, e, k1, k2⟩
  · cases h; obtain ⟨l, vs, e, k1, k2⟩ := rp_tup p; exact ⟨.sq true l, vs, e, k1, k2⟩
  · cases h; exact ⟨.tx _, _, rp_str p, rfl, rpl_sg _⟩
  · cases h
theorem wlk_z2 {K : PySem.W.Frag} {Hm : Hp} {c1 c2 : Sc} {xs ys : List V} {dxs dys : List PyData} (ha : c1.hs K Hm xs) (hb : c2.hs K Hm ys) (h1 : RpL K Hm dxs xs) (h2 : RpL K Hm dys ys) : Wlk K Hm (Itz2 c1 c2 K) (List.zipWith pairD dxs dys) := by
  have len : (List.zipWith pairD dxs dys).length = min xs.length ys.length := by rw [List.length_zipWith, rpl_len h1, rpl_len h2]
  refine ⟨fun H => c1.hs K H xs ∧ c2.hs K H ys, fun i H x H' => ∃ T y z, x = .ref T ∧ H T = none ∧ H' = upd H T (.tup [y, z]) ∧ xs[i]? = some y ∧ ys[i]? = some z, ⟨fun i H hi g => ?_, fun H g => ⟨xs, ys, g.1, g.2, len⟩, fun i H x H' hi g y => ?_⟩, fun H s => ⟨Sc.hs_sm s ha, Sc.hs_sm s hb⟩, fun i d H x H' hd y O s mu => ?_⟩
  · rw [len] at hi
    exact ⟨xs, ys, g.1, g.2, hi⟩
  · obtain ⟨T, x, z, e1, e2, e3, e4, e5⟩ := y
    exact ⟨T, x, z, e1, e2, e3, e4 xs g.1, e5 ys g.2⟩
  · obtain ⟨T, x, z, rfl, e2, rfl, e4, e5⟩ := y
    rw [List.getElem?_zipWith] at hd
    cases q1 : dxs[i]? with
    | none => rw [q1] at hd; simp at hd
    | some dx =>
      cases q2 : dys[i]? with
      | none => rw [q1, q2] at hd; simp at hd
      | some dy =>
        rw [q1, q2] at hd
        have hd : d = pairD dx dy := by simpa using hd.symm
        subst hd
        obtain ⟨x', k1, r1⟩ := rpl_get h1 q1
        obtain ⟨y', k2, r2⟩ := rpl_get h2 q2
        rw [e4] at k1 ; cases k1
        rw [e5] at k2 ; cases k2
        refine ⟨.new mu e2, ?_⟩
        exact new_tup (K := K) (m := .st) (O := O) (Ox := []) (H := H) (ds := [dx, dy]) (xs := [x, z]) (p := T) ⟨mu, fun _ z => nomatch z⟩ e2 (rpl_cons (r1.sm s) (rpl_cons (r2.sm s) rpl_nil))
def gZip2 (x y : PyData) : Option PyData := match srcD x, srcD y with
  | some xs, some ys => some (.list (List.zipWith pairD xs ys))
  | _, _ => none
section
variable {X : Cx} {C : Cf} {W : WX} {k : Nat} {a b : Expr} {ta tb : TE} {fa fb : PX} {p pos tpos : Pos} {elts : List Expr} {kk : Nat}
theorem pi_zipT (o : On X C k) (hg : Gl X "zip") (hm : X.mg "zip" = none) (ha : PP X C W .st a ta fa) (hb : PP X C W .st b tb fb) (hs : starEach [a, b] X.env = (false, eval a X.env) :: starEach [b] X.env := by rfl) (hs2 : starEach [b] X.env = (false, eval b X.env) :: starEach [] X.env := by rfl) (hpl : (backTo pos (starEach [b] X.env)).any (·.1) = false := by rfl) :
    PIt X C W (.Tuple elts kk tpos) (.Call (.Name "zip" p) [a, b] [] pos) (iZip2 C.K (tCons ta (tCons tb tNil))) (toI (b2 fa fb gZip2)) := ⟨by rw [← o.K]; exact pi_zipS hg hm (pa_cons ha.pe (pa_cons hb.pe pa_nil hs2) hs) hs hpl, fun Γ r hr H0 Ox σ H E R q => by
  show ta σ H fun x H1 => tb σ H1 fun y H2 => ∃ (c1 c2 : Sc) (xs ys : List V), [x, y] = [c1.v, c2.v] ∧ c1.hs C.K H2 xs ∧ c2.hs C.K H2 ys ∧ R (Itz2 c1 c2 C.K) H2
  obtain ⟨r', h1, h2⟩ := toI_some hr
  refine ev_two ha.ev hb.ev E h1 (fun d e z hz er x y H2 s E2 px py => ?_) fun x ex => ?_
  · subst er
    obtain ⟨ds, rfl, rfl⟩ := h2
    unfold gZip2 at hz
    split at hz
    · rename_i xs ys q1 q2
      cases hz
      obtain ⟨c1, vs1, rfl, k1, k2⟩ := rp_srcD q1 px
      obtain ⟨c2, vs2, rfl, k3, k4⟩ := rp_srcD q2 py
      exact ⟨c1, c2, vs1, vs2, rfl, Sc.hs_sm (mask_le _ _) k1, Sc.hs_sm (mask_le _ _) k3, q _ H2 s (wlk_z2 k1 k3 k2 k4)⟩
    · cases hz
  · subst ex
    have h2 : r = .error x := h2
    subst h2
    exact q⟩
end

/-! ## dicts, keys ints and texts -/
def keyOf : PyData → Option Key
  | .int i => some (.inl i)
  | .str x => some (.inr x)
  | _ => none
def kIs : PyData → Key → Bool
  | .int i, .inl j => decide (i = j)
  | .str x, .inr y => decide (x = y)
  | _, _ => false
def isKey : PyData → Bool
  | .int _ => true
  | .str _ => true
  | _ => false
abbrev Kvs := List (PyData × PyData)
def dGet (q : Key) : Kvs → Option PyData
  | [] => none
  | (k, d) :: r => if kIs k q then some d else dGet q r
def dRep (q : Key) (z : PyData) : Kvs → Kvs
  | [] => []
  | (k, d) :: r => (k, if kIs k q then z else d) :: dRep q z r
def dHas (q : Key) : Kvs → Bool
  | [] => false
  | (k, _) :: r => kIs k q || dHas q r
def dPut (q : Key) (z : PyData) (kvs : Kvs) : Kvs := if dHas q kvs then dRep q z kvs else kvs ++ [(keyD q, z)]
theorem kIs_keyD (k q : Key) : kIs (keyD k) q = decide (k = q) := by
  cases k <;> cases q <;> simp [kIs, keyD]
theorem keyOf_D {z : PyData} {q : Key} (h : keyOf z = some q) : z = keyD q := by
  unfold keyOf at h
  split at h <;> cases h <;> rfl
theorem rp_key {K : PySem.W.Frag} {H : Hp} {q : Key} {v : V} (p : Rp K H (keyD q) v) : v = kV q := by
  cases q with
  | inl i => exact rp_int p
  | inr x => exact rp_str p
section
variable {K : PySem.W.Frag} {Hm : Hp}
theorem rpK_get {q : Key} {d : PyData} : ∀ {kvs : Kvs} {ys : List (Key × V)}, RpK K Hm kvs ys → dGet q kvs = some d → ∃ v, valV ys q = some v ∧ Rp K Hm d v
  | [], _, _, h => by cases h
  | (k, d') :: r, ys, p, h => by
    simp only [RpK] at p
    obtain ⟨q', y, s, rfl, rfl, h2, h3⟩ := p
    unfold dGet at h
    rw [kIs_keyD] at h
    by_cases e : q' = q
    · rw [if_pos (decide_eq_true e)] at h
      cases h
      exact ⟨y, valV_pos (p := (q', y)) e, h2⟩
    · rw [if_neg (by simpa using e)] at h
      obtain ⟨v, h4, h5⟩ := rpK_get h3 h
      exact ⟨v, by rw [valV_neg (p := (q', y)) e]; exact h4, h5⟩
theorem rpT_get {q : Key} {d : PyData} : ∀ {kvs : Kvs} {ys : List (List Key × V)}, RpT K Hm kvs ys → dGet q kvs ≠ some d
  | [], _, _, h => by cases h
  | (k, d') :: r, ys, p, h => by
    simp only [RpT] at p
    obtain ⟨q', y, s, rfl, rfl, h2, h3⟩ := p
    unfold dGet at h
    exact rpT_get h3 h
theorem rpK_any {q : Key} : ∀ {kvs : Kvs} {ys : List (Key × V)}, RpK K Hm kvs ys → (ys.any fun kv => decide (kv.1 = q)) = dHas q kvs
  | [], _, p => by simp only [RpK] at p; subst p; rfl
  | (k, d') :: r, ys, p => by
    simp only [RpK] at p
    obtain ⟨q', y, s, rfl, rfl, h2, h3⟩ := p
    unfold dHas
    rw [List.any_cons, rpK_any h3, kIs_keyD]
theorem rpK_rep {q : Key} {z : PyData} {v : V} (hv : Rp K Hm z v) : ∀ {kvs : Kvs} {ys : List (Key × V)}, RpK K Hm kvs ys → RpK K Hm (dRep q z kvs) (ys.map fun kv => if kv.1 = q then (kv.1, v) else kv)
  | [], _, p => by simp only [RpK] at p; subst p; simp only [dRep, RpK, List.map_nil]
  | (k, d') :: r, ys, p => by
    simp only [RpK] at p
    obtain ⟨q', y, s, rfl, rfl, h2, h3⟩ := p
    unfold dRep
    rw [List.map_cons, kIs_keyD]
    simp only [RpK]
    by_cases e : q' = q
    · subst e
      simp only [decide_true, if_true]
      exact ⟨_, _, _, rfl, rfl, hv, rpK_rep hv h3⟩
    · simp only [decide_eq_false e, if_neg e, Bool.false_eq_true, if_false]
      exact ⟨_, _, _, rfl, rfl, h2, rpK_rep hv h3⟩
theorem rpK_snoc {q : Key} {z : PyData} {v : V} (hv : Rp K Hm z v) : ∀ {kvs : Kvs} {ys : List (Key × V)}, RpK K Hm kvs ys → RpK K Hm (kvs ++ [(keyD q, z)]) (ys ++ [(q, v)])
  | [], _, p => by
    simp only [RpK] at p
    subst p
    simp only [List.nil_append, RpK]
    exact ⟨q, v, [], rfl, rfl, hv, rfl⟩
  | (k, d') :: r, ys, p => by
    simp only [RpK] at p
    obtain ⟨q', y, s, rfl, rfl, h2, h3⟩ := p
    rw [List.cons_append, List.cons_append]
    simp only [RpK]
    exact ⟨q', y, _, rfl, rfl, h2, rpK_snoc hv h3⟩
theorem rpK_put {q : Key} {z : PyData} {v : V} (hv : Rp K Hm z v) {kvs : Kvs} {ys : List (Key × V)} (p : RpK K Hm kvs ys) : RpK K Hm (dPut q z kvs) (putK ys q v) := by
  unfold dPut putK
  rw [rpK_any p]
  by_cases h : dHas q kvs = true
  · rw [if_pos h, if_pos h]; exact rpK_rep hv p
  · rw [if_neg h, if_neg h]; exact rpK_snoc hv p
theorem rpK_len : ∀ {kvs : Kvs} {ys : List (Key × V)}, RpK K Hm kvs ys → kvs.length = ys.length
  | [], _, p => by simp only [RpK] at p; subst p; rfl
  | (k, d') :: r, ys, p => by
    simp only [RpK] at p
    obtain ⟨q', y, s, rfl, rfl, h2, h3⟩ := p
    rw [List.length_cons, List.length_cons, rpK_len h3]
theorem rpT_keys : ∀ {kvs : Kvs} {ys : List (List Key × V)}, RpT K Hm kvs ys → kvs ≠ [] → (kvs.all fun p => isKey p.1) = false
  | [], _, _, h => absurd rfl h
  | (k, d') :: r, ys, p, _ => by
    simp only [RpT] at p
    obtain ⟨q', y, s, rfl, rfl, h2, h3⟩ := p
    rfl
end
section
variable {X : Cx} {C : Cf} {W : WX} {m : Md} {k : Nat} {a b e : Expr} {ta tb te : TE} {fa fb f : PX} {p pos pos' : Pos} {x : Str}
theorem pf_dict0 : PF X C W m (.Dict [] [] pos) tDNewK (fC (.dict [])) := ⟨pe_dnewK, fun Γ r hr H0 Ox σ H E Q q => by
  cases hr
  intro l hl
  exact q l _ H (.refl _ _) hl (.inl ⟨[], rfl, by simp only [RpK]⟩)⟩
def gDGet : PyData → PyData → Option PyData
  | .dict kvs, z => (keyOf z).bind fun q => dGet q kvs
  | _, _ => none
theorem hf_mrp {K : PySem.W.Frag} {O Ox : List Addr} {H : Hp} {d : PyData} {v : V} (h : Hf K m O Ox H d v) : (∃ ds, d = .list ds) ∨ Rp K (hm m O Ox H) d v := by
  cases d with
  | list ds => exact .inl ⟨ds, rfl⟩
  | none => exact .inr h
  | bool _ => exact .inr h
  | int _ => exact .inr h
  | str _ => exact .inr h
  | tuple _ => exact .inr h
  | dict _ => exact .inr h
/-- d[y] -/
theorem pp_dget (o : On X C k) (ha : PP X C W m a ta fa) (hb : PP X C W .rd b tb fb) (hs : NoSl b := by exact fun _ _ => rfl) : PP X C W m (.Subscript a b pos) (tDGet ta tb) (b2 fa fb gDGet) := by
  refine ⟨pe_dget (by have := o.un; omega) ha.pe hb.pe hs, fun Γ r hr H0 Ox σ H E Q q => ?_⟩
  show ta σ H fun x H1 => tb σ H1 fun y H2 => ∃ a v, x = .ref a ∧ DGet H2 a y (some v) ∧ Q v H2
  refine evH_two ha.h.ev hb.h.ev E hr (fun d e z hz er x y H2 s E2 px py => ?_) fun x ex => by subst ex; exact q
  subst er
  have px' := hf_mrp px; clear px
  have py' := hf_rd py; clear py
  unfold gDGet at hz
  split at hz
  · rename_i kvs
    cases hq : keyOf e with
    | none => rw [hq] at hz; cases hz
    | some kq =>
      rw [hq] at hz
      have hz : dGet kq kvs = some z := hz
      rw [keyOf_D hq] at py'
      rw [rp_key py']
      have px := px'.resolve_left (fun ⟨ds, e⟩ => by cases e)
      simp only [Rp] at px
      obtain ⟨a, rfl, ⟨ys, h1, h2⟩ | ⟨ys, h1, h2⟩⟩ := px
      · obtain ⟨v, h3, h4⟩ := rpK_get h2 hz
        exact ⟨a, v, rfl, .inl ⟨ys, kq, rd_sm hm_le (fun ps z => by cases z) h1, rfl, h3.symm⟩, q v _ s h4⟩
      · exact absurd hz (rpT_get h2)
  · cases hz
def dputX (i : Nat) (fi f : PX) : SX := fun Γ => match f Γ with
  | some (.ok d) => (match Γ[i]? with
    | some (some (.dict kvs)) => (match fi Γ with
      | some (.ok z) => (keyOf z).bind fun q => if kvs.length < big ∧ (kvs.all fun p => isKey p.1) = true then some (.nx (Γ.set i (some (.dict (dPut q d kvs))))) else none
      | some (.error e) => some (.ex e Γ)
      | none => none)
    | _ => none)
  | some (.error e) => some (.ex e Γ)
  | none => none
theorem st_dput (o : On X C k) (i : Nat) {x : Str} {p2 p3 : Pos} (hi : PP X C W .rd a ta fa) (h : PP X C W .st e te f) (hfl : C.fl.contains i = true := by rfl) (hN : X.N[i]? = some x := by rfl) (hv : Vis X.env.scope x := by first | exact Or.inl rfl | exact Or.inr (Or.inl rfl) | exact Or.inr (Or.inr rfl)) (hd : (x == ("__debug__" : Str)) = false := by decide)
    (hcd : (x == ("__classdict__" : Str)) = false := by decide) (hs : swapsWith e (some (.Subscript (.Name x p2) a p3)) pos.line X.env = pure false := by rfl) : PSt X C W (.Assign [.Subscript (.Name x p2) a p3] e pos) (sDPut (tVar i) ta te) (dputX i fa f) := by
  refine ⟨ps_dput (by have := o.un; omega) (pe_var hN hv hd hcd) hi.pe h.pe hs, fun Γ r hr H0 Ox σ H E D q => ?_⟩
  show te σ H fun v H1 => ∃ w, σ[i]? = some (some w) ∧ ta σ H1 fun y H3 => ∃ a H4, w = .ref a ∧ DPut H3 a y v H4 ∧ D.nx σ H4
  unfold dputX at hr
  split at hr
  · rename_i d h1
    refine h.ev Γ _ h1 H0 Ox σ H E _ fun y H1 s1 p1 => ?_
    have E1 := E.step s1
    split at hr
    · rename_i kvs h0
      obtain ⟨l, ob, e1, e2, e3, e4⟩ := E1.own i _ h0 (yfl hfl)
      refine ⟨.ref l, e1, ?_⟩
      split at hr
      · rename_i z h2
        refine hi.ev Γ _ h2 H0 Ox σ H1 E1 _ fun w H2 s2 p2 => ?_
        have E2 := E1.step s2
        cases hq : keyOf z with
        | none => rw [hq] at hr; cases hr
        | some kq =>
          rw [hq] at hr
          have hr : (if kvs.length < big ∧ (kvs.all fun p => isKey p.1) = true then some (Oc.nx (Γ.set i (some (.dict (dPut kq d kvs))))) else none) = some r := hr
          split at hr
          · rename_i hc
            cases hr
            rw [keyOf_D hq] at p2
            have m : l ∈ ow C.fl Ox σ Γ := mem_ow.mpr (.inl ⟨i, yfl hfl, ow_of h0 e1⟩)
            rcases e3 with ⟨ys, rfl, e5⟩ | ⟨ys, rfl, e6, e5⟩
            · have e2' : H2 l = some (.dK ys) := by rw [s2.2 l m]; exact e2
              refine ⟨l, _, rfl, by rw [rp_key p2]; exact .inl ⟨ys, kq, e2', rfl, by rw [← rpK_len e5]; exact Nat.lt_of_lt_of_le hc.1 (by decide), rfl⟩, ?_⟩
              exact q σ _ (E2.chg (yfl hfl) h0 e1 e2' (o' := .dK (putK ys kq y)) (.inl ⟨_, rfl, rpK_put (p1.sm s2.1) (RpK.sm s2.1 _ _ e5)⟩) e4)
            · exact absurd hc.2 (by rw [rpT_keys e5 e6]; decide)
          · cases hr
      · rename_i x h2
        cases hr
        exact hi.ev Γ _ h2 H0 Ox σ H1 E1 _ fun H' s => q σ H' (E1.step s)
      · cases hr
    · cases hr
  · rename_i x h1
    cases hr
    exact h.ev Γ _ h1 H0 Ox σ H E _ fun H' s => q σ H' (E.step s)
  · cases hr
end

/-! ## text.swapcase() -/
theorem mt_swapcase {X : Cx} : MtR X "str.swapcase" (fun x xs H Q => ∃ a, x = .str a ∧ xs = [] ∧ a.length ≤ 5592405 ∧ Q (.str (Txt.swapcase a)) H) :=
  mt0 (C := fun a => a.length ≤ 5592405) (g := fun a => .str (Txt.swapcase a)) fun a _ s _ hc h =>
    PySem.SC.swapcase (PyProof.Rows.short24 (by have h1 : a.length ≤ 5592405 := hc; have := PyProof.Rows.len_swapcase a; omega)) (h _ (s.toks + 1) ⟨_, rfl⟩)
def gSwap : PyData → Option PyData
  | .str a => if a.length ≤ 4000000 then some (.str (Txt.swapcase a)) else none
  | _ => none
section
variable {X : Cx} {C : Cf} {W : WX} {m : Md} {k : Nat} {a : Expr} {ta : TE} {fa : PX} {pos apos : Pos}
theorem pp_swap (o : On X C k) (ha : PP X C W m a ta fa) (hbase : attributeBase a "swapcase" X.env (eval a X.env) = eval a X.env := by rfl) (hline : (apos.endLine == pos.line) = true := by rfl) :
    PP X C W m (.Call (.Attribute a "swapcase" apos) [] [] pos) (tM0 (fun x xs H Q => ∃ a, x = .str a ∧ xs = [] ∧ a.length ≤ 5592405 ∧ Q (.str (Txt.swapcase a)) H) ta) (b1 fa gSwap) := by
  refine ⟨pe_m0 F.slot_str_swapcase F.type_str_swapcase mt_swapcase ha.pe hbase hline, fun Γ r' hr' H0 Ox σ H E Q q => ?_⟩
  show ta σ H fun x H1 => (∃ a, x = .str a) ∧ ∃ a, x = .str a ∧ ([] : List V) = [] ∧ a.length ≤ 5592405 ∧ Q (.str (Txt.swapcase a)) H1
  refine ev_one ha.ev E hr' (fun d z hz er x H2 s E2 px => ?_) fun x ex => by subst ex; exact q
  subst er
  unfold gSwap at hz
  split at hz
  · rename_i z'
    by_cases h : z'.length ≤ 4000000
    · rw [if_pos h] at hz; cases hz
      exact ⟨⟨_, rp_str px⟩, _, rp_str px, rfl, by omega, q _ _ s mk_str⟩
    · rw [if_neg h] at hz; cases hz
  · cases hz
end
end Z

set_option Elab.async false
set_option linter.all false
set_option maxRecDepth 100000
set_option maxHeartbeats 4000000
namespace Z
open PySem PySem.Spec PyProof.Rows L2

section
variable {X : Cx} {C : Cf} {W : WX} {m : Md} {k : Nat} {a b e : Expr} {ta tb te : TE} {fa fb f : PX} {p pos pos' apos : Pos} {x : Str}
/-! ## the truth of a value -/
def truD : PyData → Option Bool
  | .none => some false
  | .bool b => some b
  | .int i => some (i != 0)
  | .str z => if z.length ≤ big then some ((z.length : Int) != 0) else none
  | .list ds => some (!ds.isEmpty)
  | .tuple ds => some (!ds.isEmpty)
  | .dict _ => none
def truX (f : PX) : PTx := fun Γ => match f Γ with
  | some (.ok d) => (truD d).map .ok
  | some (.error e) => some (.error e)
  | none => none
theorem rpl_empty {K : PySem.W.Frag} {H : Hp} {ds : List PyData} {vs : List V} (h : RpL K H ds vs) : ds.isEmpty = vs.isEmpty := by
  cases ds with
  | nil => simp only [RpL] at h; subst h; rfl
  | cons d ds => simp only [RpL] at h; obtain ⟨v, r, rfl, _⟩ := h; rfl
theorem tru_rp {K : PySem.W.Frag} {H : Hp} {d : PyData} {v : V} {q : Bool} (p : Rp K H d v) (h : truD d = some q) : TruV K v H q := by
  unfold truD at h
  split at h
  · cases h; rw [rp_none p]; rfl
  · cases h; rw [rp_bool p]; rfl
  · cases h; rw [rp_int p]; rfl
  · split at h
    · rename_i hb
      cases h; rw [rp_str p]; exact ⟨big_ok hb, rfl⟩
    · cases h
  · cases h
    obtain ⟨l, xs, rfl, h1, h2⟩ := rp_lst p
    exact .inl ⟨xs, h1, by rw [rpl_empty h2]⟩
  · cases h
    obtain ⟨l, xs, rfl, h1, h2⟩ := rp_tup p
    exact .inr (.inl ⟨xs, h1, by rw [rpl_empty h2]⟩)
  · cases h
theorem ptt_tru (o : On X C k) (ha : PP X C W .rd a ta fa) (he : ∀ whole, isTrue a X.env whole = (do let v ← whole; standAt a.pos; holding [v] (truthy v)) := by intro _; rfl) : PTt X C W a (fun σ H Q => ta σ H fun x H' => ∃ k, TruV C.K x H' k ∧ Q k H') (truX fa) := by
  refine ⟨by rw [← o.K]; exact pt_truth ha.pe he, fun Γ r hr H0 Ox σ H E Q q => ?_⟩
  unfold truX at hr
  split at hr
  · rename_i d h1
    cases h2 : truD d with
    | none => rw [h2] at hr; cases hr
    | some b =>
      rw [h2] at hr
      cases hr
      exact ha.ev Γ _ h1 H0 Ox σ H E _ fun v H' s p => ⟨b, tru_rp p h2, q H' s⟩
  · rename_i e h1
    cases hr
    exact ha.ev Γ _ h1 H0 Ox σ H E _ q
  · cases hr

/-! ## xs.pop(), a statement -/
def popX (i : Nat) : SX := fun Γ => match Γ[i]? with
  | some (some (.list ds)) => if ds.isEmpty then none else some (.nx (Γ.set i (some (.list ds.dropLast))))
  | _ => none
theorem rpl_dropL {K : PySem.W.Frag} {H : Hp} {ds : List PyData} {vs : List V} (h : RpL K H ds vs) : RpL K H ds.dropLast vs.dropLast := by
  rw [List.dropLast_eq_take, List.dropLast_eq_take, rpl_len h]
  exact rpl_take _ h
theorem st_pop (o : On X C k) (i : Nat) {x : Str} {p2 : Pos} (hfl : C.fl.contains i = true := by rfl) (hN : X.N[i]? = some x := by rfl) (hv : Vis X.env.scope x := by first | exact Or.inl rfl | exact Or.inr (Or.inl rfl) | exact Or.inr (Or.inr rfl)) (hd : (x == ("__debug__" : Str)) = false := by decide)
    (hcd : (x == ("__classdict__" : Str)) = false := by decide) (hbase : attributeBase (Expr.Name x p2) "pop" X.env (eval (Expr.Name x p2) X.env) = eval (Expr.Name x p2) X.env := by rfl) (hline : (apos.endLine == pos'.line) = true := by rfl)
    (hs : swapsWith (.Call (.Attribute (.Name x p2) "pop" apos) [] [] pos') none pos.line X.env = pure false := by rfl) :
    PSt X C W (.Expr (.Call (.Attribute (.Name x p2) "pop" apos) [] [] pos') pos) (tDrop (tBM0 C.K "list" rPop (tVar i))) (popX i) := by
  refine ⟨ps_expr (by rw [← o.K]; exact pe_bm0 PySem.F.plainAttrs_list PySem.F.slot_list_pop PySem.F.type_list_pop mt_pop (pe_var hN hv hd hcd) hbase hline) hs, fun Γ r hr H0 Ox σ H E D q => ?_⟩
  unfold popX at hr
  split at hr
  · rename_i ds h0
    split at hr
    · cases hr
    · rename_i hne
      cases hr
      obtain ⟨l, xs, e1, e2, e3, e4⟩ := own_lst E (yfl hfl) h0
      have hlen : 0 < ds.length := List.length_pos_iff.mpr fun e => hne (by rw [e]; rfl)
      obtain ⟨v, g1, g2⟩ := rpl_get e3 (List.getElem?_eq_getElem (show ds.length - 1 < ds.length by omega))
      refine ⟨.ref l, e1, .inl ⟨rfl, xs, SqL.of e2⟩, l, xs, v, rfl, rfl, e2, by rw [← rpl_len e3]; exact g1, ?_⟩
      exact q σ _ (E.chg (yfl hfl) h0 e1 e2 (o' := .lst xs.dropLast) ⟨_, rfl, rpl_dropL e3⟩ e4)
  · cases hr
end
end Z

set_option Elab.async false
set_option linter.all false
set_option maxRecDepth 100000
set_option maxHeartbeats 4000000
namespace Z
open PySem PySem.Spec PyProof.Rows L2

section
variable {C : Cf} {H0 H : Hp} {Ox : List Addr} {σ : L2.St} {Γ : Ga}
theorem ow1_none {i j : Nat} (h : j ≠ i) : ow1 σ (Γ.set i none) j = ow1 σ Γ j := by
  unfold ow1
  rw [List.getElem?_set_ne (Ne.symm h)]
theorem ow1_self {i : Nat} : ow1 σ (Γ.set i none) i = none := by
  unfold ow1
  rw [List.getElem?_set, if_pos rfl]
  by_cases h : i < Γ.length
  · rw [if_pos h]
  · rw [if_neg h]
theorem ow_less {i : Nat} {O : List Addr} : ∀ a ∈ ow C.fl O σ (Γ.set i none), a ∈ ow C.fl O σ Γ := fun a h => by
  rcases mem_ow.mp h with ⟨j, hj, e⟩ | h
  · by_cases q : j = i
    · rw [q, ow1_self] at e; cases e
    · rw [ow1_none q] at e
      exact mem_ow.mpr (.inl ⟨j, hj, e⟩)
  · exact mem_ow.mpr (.inr h)
/-- what was one's own is left to itself -/
theorem EnvR.give (E : EnvR C H0 Ox σ Γ H) {i : Nat} {d : PyData} (h : i ∈ C.fl) (hd : Γ[i]? = some (some d)) :
    EnvR C H0 Ox σ (Γ.set i none) H ∧ ∃ l, σ[i]? = some (some (.ref l)) ∧ Rp C.K (mask (ow C.fl Ox σ (Γ.set i none)) H) d (.ref l) := by
  obtain ⟨l, ob, e1, e2, e3, e4⟩ := E.own i d hd h
  have ms : ∀ O, Sm (mask (ow C.fl O σ Γ) H) (mask (ow C.fl O σ (Γ.set i none)) H) := fun O => mask_sub ow_less
  have hl : l ∉ ow C.fl Ox σ (Γ.set i none) := fun hm => by
    rcases mem_ow.mp hm with ⟨j, hj, e⟩ | hm
    · by_cases q : j = i
      · rw [q, ow1_self] at e; cases e
      · rw [ow1_none q] at e
        exact q (E.apart j i l hj h e (ow_of hd e1))
    · exact e4 hm
  refine ⟨⟨by rw [List.length_set]; exact E.len, E.tabs, E.sm.trans (ms []), fun j e hj hn => ?_, fun j e hj hn => ?_, fun j k a hj hk h1 h2 => ?_, E.ox, E.pn⟩, l, e1, (e3.sm (ms Ox)).rp (by rw [mask_out hl]; exact e2)⟩
  · have q : j ≠ i := fun z => hn (z ▸ h)
    rw [List.getElem?_set_ne (Ne.symm q)] at hj
    obtain ⟨v, f1, f2⟩ := E.val j e hj hn
    exact ⟨v, f1, f2.sm (ms Ox)⟩
  · by_cases q : j = i
    · subst q
      rw [List.getElem?_set, if_pos rfl] at hj
      split at hj <;> cases hj
    · rw [List.getElem?_set_ne (Ne.symm q)] at hj
      obtain ⟨l', u, f1, f2, f3, f4⟩ := E.own j e hj hn
      exact ⟨l', u, f1, f2, f3.sm (ms Ox), f4⟩
  · by_cases q1 : j = i
    · rw [q1, ow1_self] at h1; cases h1
    · by_cases q2 : k = i
      · rw [q2, ow1_self] at h2; cases h2
      · rw [ow1_none q1] at h1
        rw [ow1_none q2] at h2
        exact E.apart j k a hj hk h1 h2
end
section
variable {X : Cx} {C : Cf} {W : WX} {k : Nat} {pos pos' : Pos}
/-- y = x, x a slot of one's own, forgotten then -/
def giveX (i j : Nat) : SX := fun Γ => match Γ[i]? with
  | some (some d) => some (.nx ((Γ.set i none).set j (some d)))
  | _ => none
theorem st_give (o : On X C k) (i j : Nat) {x y : Str} {p2 : Pos} (hfl : C.fl.contains i = true := by rfl) (hpl : C.plain j = true := by rfl) (hN : X.N[i]? = some x := by rfl) (hv : Vis X.env.scope x := by first | exact Or.inl rfl | exact Or.inr (Or.inl rfl) | exact Or.inr (Or.inr rfl)) (hd : (x == ("__debug__" : Str)) = false := by decide)
    (hcd : (x == ("__classdict__" : Str)) = false := by decide) (hi : X.N[j]? = some y := by rfl) (hx : Loc X.env.scope y := by first | exact Or.inl rfl | exact Or.inr rfl) (hs : swapsWith (.Name x p2) (some (.Name y pos')) pos.line X.env = pure false := by rfl) (hf : X.fn y = true ∨ X.env.scope.names.lookup y = some .local := by first | exact .inl rfl | exact .inr rfl | assumption) :
    PSt X C W (.Assign [.Name y pos'] (.Name x p2) pos) (tAsg (tVar i) (gName j)) (giveX i j) := ⟨ps_set o.nd hi hx (pe_var hN hv hd hcd) hs hf, fun Γ r hr H0 Ox σ H E D q => by
  unfold giveX at hr
  split at hr
  · rename_i d h0
    cases hr
    obtain ⟨E', l, e1, e2⟩ := E.give (yfl hfl) h0
    show ∃ v, σ[i]? = some (some v) ∧ D.nx (σ.set j (some v)) H
    exact ⟨.ref l, e1, q _ _ (E'.set (pl1 hpl) (pl2 hpl) e2)⟩
  · cases hr⟩
/-- ys.append(x), x a slot of one's own, forgotten then -/
def appGX (j i : Nat) : SX := fun Γ => match Γ[i]? with
  | some (some d) => (match Γ[j]? with
    | some (some (.list ds)) => if ds.length < big ∧ i ≠ j then some (.nx ((Γ.set i none).set j (some (.list (ds ++ [d]))))) else none
    | _ => none)
  | _ => none
theorem st_appG (o : On X C k) (j i : Nat) {x y : Str} {p2 p3 apos : Pos} (hflj : C.fl.contains j = true := by rfl) (hfl : C.fl.contains i = true := by rfl)
    (hN : X.N[i]? = some x := by rfl) (hv : Vis X.env.scope x := by first | exact Or.inl rfl | exact Or.inr (Or.inl rfl) | exact Or.inr (Or.inr rfl)) (hd : (x == ("__debug__" : Str)) = false := by decide) (hcd : (x == ("__classdict__" : Str)) = false := by decide)
    (hNj : X.N[j]? = some y := by rfl) (hvj : Vis X.env.scope y := by first | exact Or.inl rfl | exact Or.inr (Or.inl rfl) | exact Or.inr (Or.inr rfl)) (hdj : (y == ("__debug__" : Str)) = false := by decide) (hcdj : (y == ("__classdict__" : Str)) = false := by decide)
    (hs : swapsWith (.Call (.Attribute (.Name y p2) "append" apos) [.Name x p3] [] pos') none pos.line X.env = pure false := by rfl)
    (hfew : ((backTo pos' (starEach [Expr.Name x p3] X.env)).all (fun x => !x.1) && (backToKw pos' (keywordEach [] X.env)).all (fun x => x.1.isSome)
      && decide (([Expr.Name x p3] : List Expr).length + ([] : List Keyword).length + (if ([] : List Keyword).isEmpty then 0 else 1) < 30)) = true := by rfl)
    (hline : (apos.endLine == pos'.line) = true := by rfl) (hse : starEach [Expr.Name x p3] X.env = (false, eval (.Name x p3) X.env) :: starEach [] X.env := by rfl) (hplain : (backTo pos' (starEach [] X.env)).any (·.1) = false := by rfl) :
    PSt X C W (.Expr (.Call (.Attribute (.Name y p2) "append" apos) [.Name x p3] [] pos') pos) (tDrop (tBM C.K "list" rAppend (tVar j) (tCons (tVar i) tNil))) (appGX j i) := by
  refine ⟨ps_expr (by rw [← o.K]; exact pe_bm PySem.F.plainAttrs_list PySem.F.slot_list_append PySem.F.type_list_append mt_append (pe_var hNj hvj hdj hcdj) (pa_cons (pe_var hN hv hd hcd) pa_nil hse) rfl hfew hline hse hplain) hs, fun Γ r hr H0 Ox σ H E D q => ?_⟩
  show ∃ v, σ[j]? = some (some v) ∧ tyV C.K "list" v H ∧ ∃ u, σ[i]? = some (some u) ∧ rAppend v [u] H fun _ H3 => D.nx σ H3
  unfold appGX at hr
  split at hr
  · rename_i d h0
    split at hr
    · rename_i ds h1
      split at hr
      · rename_i hc
        cases hr
        obtain ⟨E', l, e1, e2⟩ := E.give (yfl hfl) h0
        have h1' : (Γ.set i none)[j]? = some (some (.list ds)) := by rw [List.getElem?_set_ne hc.2]; exact h1
        obtain ⟨l2, xs, f1, f2, f3, f4⟩ := own_lst E' (yfl hflj) h1'
        refine ⟨.ref l2, f1, .inl ⟨rfl, xs, SqL.of f2⟩, .ref l, e1, l2, xs, .ref l, rfl, rfl, f2, Nat.lt_of_lt_of_le (by rw [← rpl_len f3]; exact hc.1) (by decide), ?_⟩
        exact q σ _ (E'.chg (d' := .list (ds ++ [d])) (yfl hflj) h1' f1 f2 (o' := .lst (xs ++ [.ref l])) ⟨_, rfl, rpl_app f3 (rpl_cons e2 rpl_nil)⟩ f4)
      · cases hr
    · cases hr
  · cases hr
end
end Z

set_option Elab.async false
set_option linter.all false
set_option maxRecDepth 100000
set_option maxHeartbeats 4000000
namespace Z
open PySem PySem.Spec PyProof.Rows L2

section
variable {C : Cf} {H0 H : Hp} {Ox : List Addr} {σ : L2.St} {Γ : Ga}

theorem EnvR.addOxU (E : EnvR C H0 Ox σ Γ H) {D : Addr} {u : HO} (mu : Mut (some u)) (h : H D = none) : EnvR C H0 (D :: Ox) σ Γ (upd H D u) := by
  have sm : ∀ O', (∀ a ∈ O', a ∈ ow C.fl Ox σ Γ ∨ a = D) → Sm (mask (ow C.fl Ox σ Γ) H) (mask O' (upd H D u)) := fun O' s => sm_fresh h s
  refine ⟨E.len, E.tabs, E.sm.trans (sm_fresh h fun a ha => .inl ha), fun i d hd hn => ?_, fun i d hd hn => ?_, E.apart, fun l hl => ?_, E.pn⟩
  · obtain ⟨v, e1, e2⟩ := E.val i d hd hn
    exact ⟨v, e1, e2.sm (sm _ fun a ha => ow_cons.mp ha)⟩
  · obtain ⟨l, o, e1, e2, e3, e4⟩ := E.own i d hd hn
    have ne := ne_of_none e2 h
    exact ⟨l, o, e1, by rw [upd_ne ne]; exact e2, e3.sm (sm _ fun a ha => ow_cons.mp ha), fun q => (List.mem_cons.mp q).elim ne e4⟩
  · by_cases q : l = D
    · rw [q, upd_same]; exact mu
    · rw [upd_ne q]
      exact E.ox l ((List.mem_cons.mp hl).resolve_left q)
theorem EnvR.chgOxU (E : EnvR C H0 Ox σ Γ H) {D : Addr} {u : HO} (mu : Mut (some u)) (h : D ∈ Ox) (n : H0 D = none) : EnvR C H0 Ox σ Γ (upd H D u) := by
  have hm : D ∈ ow C.fl Ox σ Γ := mem_ow.mpr (.inr h)
  refine ⟨E.len, E.tabs, sm_off E.sm n, fun i d hd hn => ?_, fun i d hd hn => ?_, E.apart, fun l hl => ?_, E.pn⟩
  · rw [mask_upd_in hm]; exact E.val i d hd hn
  · rw [mask_upd_in hm]
    obtain ⟨l, o, e1, e2, e3, e4⟩ := E.own i d hd hn
    exact ⟨l, o, e1, by rw [upd_ne (fun e => e4 (by rw [e]; exact h))]; exact e2, e3, e4⟩
  · by_cases q : l = D
    · rw [q, upd_same]; exact mu
    · rw [upd_ne q]
      exact E.ox l hl
end
/-! ### {k: v for t in xs if c} -/
def dcI (vs : List Nat) (b : BX) (ft : PTx) (fk f : PX) (Γ : Ga) (d : PyData) : Option (Option (Key × PyData)) := match b d (wipeG Γ vs) with
  | none => none
  | some Γ1 => match ft Γ1 with
    | some (.ok true) => (match fk Γ1 with
      | some (.ok z) => (match keyOf z with
        | some q => (match f Γ1 with
          | some (.ok y) => some (some (q, y))
          | _ => none)
        | none => none)
      | _ => none)
    | some (.ok false) => some none
    | _ => none
def dcO (acc : Kvs) : Option (Key × PyData) → Kvs
  | some (q, y) => dPut q y acc
  | none => acc
def dcF (item : PyData → Option (Option (Key × PyData))) (acc : Kvs) : List PyData → Option Kvs
  | [] => some acc
  | d :: ds => match item d with
    | some o => dcF item (dcO acc o) ds
    | none => none
def dcX (i : PIx) (vs : List Nat) (b : BX) (ft : PTx) (fk f : PX) : PX := fun Γ => match i Γ with
  | some (.ok ds) => if ds.length ≤ big then (dcF (dcI vs b ft fk f Γ) [] ds).map fun ys => .ok (.dict ys) else none
  | some (.error e) => some (.error e)
  | none => none
theorem dcF_snoc {item : PyData → Option (Option (Key × PyData))} {d : PyData} {o : Option (Key × PyData)} (h : item d = some o) : ∀ {xs : List PyData} {a acc : Kvs}, dcF item a xs = some acc → dcF item a (xs ++ [d]) = some (dcO acc o)
  | [], a, acc, e => by
    cases e
    rw [List.nil_append, dcF, h]
    rfl
  | x :: xs, a, acc, e => by
    rw [dcF] at e
    rw [List.cons_append, dcF]
    cases h1 : item x with
    | none => rw [h1] at e; cases e
    | some o1 =>
      rw [h1] at e
      exact dcF_snoc h e
theorem dcF_item {item : PyData → Option (Option (Key × PyData))} : ∀ {xs : List PyData} {a acc : Kvs}, dcF item a xs = some acc → ∀ d ∈ xs, ∃ o, item d = some o
  | [], _, _, _, _, hd => by cases hd
  | x :: xs, a, acc, e, d, hd => by
    rw [dcF] at e
    cases h1 : item x with
    | none => rw [h1] at e; cases e
    | some o1 =>
      rw [h1] at e
      rcases List.mem_cons.mp hd with q | q
      · exact ⟨o1, by rw [q]; exact h1⟩
      · exact dcF_item e d q
theorem dRep_len (q : Key) (z : PyData) : ∀ kvs : Kvs, (dRep q z kvs).length = kvs.length
  | [] => rfl
  | (k, d) :: r => by rw [dRep, List.length_cons, List.length_cons, dRep_len q z r]
theorem dcO_le (acc : Kvs) (o : Option (Key × PyData)) : (dcO acc o).length ≤ acc.length + 1 := by
  cases o with
  | none => exact Nat.le_succ _
  | some p =>
    show (dPut p.1 p.2 acc).length ≤ _
    unfold dPut
    split
    · rw [dRep_len]; omega
    · rw [List.length_append]; simp
theorem dcF_le {item : PyData → Option (Option (Key × PyData))} : ∀ {xs : List PyData} {a acc : Kvs}, dcF item a xs = some acc → acc.length ≤ a.length + xs.length
  | [], _, _, e => by cases e; exact Nat.le_refl _
  | x :: xs, a, acc, e => by
    rw [dcF] at e
    cases h1 : item x with
    | none => rw [h1] at e; cases e
    | some o1 =>
      rw [h1] at e
      have h2 := dcF_le e
      have h3 := dcO_le a o1
      rw [List.length_cons]
      omega
section
variable {X : Cx} {C : Cf} {W : WX} {m : Md} {k : Nat} {kx elt tg iter : Expr} {ifs : List Expr} {scope : Scope} {own : List (Str × Nat)} {pos : Pos} {wi : TI} {fi : PIx} {g : TG} {b : BX} {tt : TT} {ft : PTx} {tk te : TE} {fk f : PX}
theorem ev_dc (hi : EvI C W wi fi) (hg : EvG C g b) (hw : WpG (own.map (·.2)) g) (ht : EvT C WF tt ft) (hk : Ev C WF .st tk fk) (he : Ev C WF .st te f) (hfl : ∀ i ∈ own.map (·.2), C.plain i = true) : EvF C W m (tDc wi g tt tk te (own.map (·.2))) (dcX fi (own.map (·.2)) b ft fk f) := fun Γ r hr H0 Ox σ H E Q q => by
  unfold dcX at hr
  cases h1 : fi Γ with
  | none => rw [h1] at hr; cases hr
  | some r1 =>
    rw [h1] at hr
    cases r1 with
    | error x =>
      cases hr
      exact hi Γ _ h1 H0 Ox σ H E _ q
    | ok ds =>
      simp only at hr
      by_cases hz : ds.length ≤ big
      · rw [if_pos hz] at hr
        cases h2 : dcF (dcI (own.map (·.2)) b ft fk f Γ) [] ds with
        | none => rw [h2] at hr; cases hr
        | some ys =>
          rw [h2] at hr
          cases hr
          refine hi Γ _ h1 H0 Ox σ H E _ fun J Ha s1 w D hD => ?_
          have E1 := E.step s1
          obtain ⟨G, Y, wk, hG, hY⟩ := w
          obtain ⟨E2, oe⟩ := E1.rebase.wipe hfl
          have E3 := E2.addOxU (u := .dK []) trivial hD
          have hD0 : mask (ow C.fl [] σ Γ) Ha D = none := by
            unfold mask
            split
            · rfl
            · exact hD
          have gr : ∀ {Γ' : Ga} {σ' : L2.St} {H' : Hp}, EnvR C (mask (ow C.fl [] σ Γ) Ha) (D :: Ox) σ' Γ' H' → Sm (mask (ow C.fl Ox σ Γ) Ha) (mask (ow C.fl (D :: Ox) σ' Γ') H') := fun E' => by
            have h3 := E'.all
            have e : mask (D :: Ox) (mask (ow C.fl [] σ Γ) Ha) = mask (ow C.fl Ox σ Γ) Ha := by
              rw [← mask_two (Ox := Ox) (σ := σ) (Γ := Γ) (C := C)]
              funext a
              by_cases q1 : a ∈ Ox
              · rw [mask_in q1, mask_in (List.mem_cons_of_mem _ q1)]
              · rw [mask_out q1]
                by_cases q2 : a = D
                · rw [q2, mask_in List.mem_cons_self, hD0]
                · exact mask_out fun q3 => (List.mem_cons.mp q3).elim q2 q1
            rwa [e] at h3
          have inD : ∀ {σ' : L2.St} {Γ' : Ga}, D ∈ ow C.fl (D :: Ox) σ' Γ' := mem_ow.mpr (.inr List.mem_cons_self)
          refine lc_itO wk (fun i H' => ∃ acc vs, dcF (dcI (own.map (·.2)) b ft fk f Γ) [] (ds.take i) = some acc ∧ H' D = some (.dK vs) ∧ RpK C.K (mask (ow C.fl (D :: Ox) (wipe σ (own.map (·.2))) (wipeG Γ (own.map (·.2)))) H') acc vs ∧
            EnvR C (mask (ow C.fl [] σ Γ) Ha) (D :: Ox) (wipe σ (own.map (·.2))) (wipeG Γ (own.map (·.2))) H' ∧ Sm Ha H') ⟨[], [], rfl, upd_same, by simp only [RpK], E3, Sm.new hD⟩ (fun i H' _ ⟨_, _, _, _, _, E', _⟩ => hG H' ((gr E').trans (mask_le _ _))) (fun i x Hb Hc hlt ⟨acc, vs, k1, k2, k3, E', k5⟩ y => ?_) fun H' ⟨acc, vs, k1, k2, k3, E', k5⟩ => ?_
          · have hd : ds[i]? = some ds[i] := by simp [hlt]
            obtain ⟨s2, p2⟩ := hY i ds[i] Hb x Hc hd y _ (gr E') E'.mut
            have E4 := E'.step s2
            obtain ⟨o, ho⟩ := dcF_item h2 ds[i] (List.getElem_mem hlt)
            have tkk : ds.take (i + 1) = ds.take i ++ [ds[i]] := by rw [List.take_succ, hd]; rfl
            have acc' : dcF (dcI (own.map (·.2)) b ft fk f Γ) [] (ds.take (i + 1)) = some (dcO acc o) := by rw [tkk]; exact dcF_snoc ho k1
            unfold dcI at ho
            cases h3 : b ds[i] (wipeG Γ (own.map (·.2))) with
            | none => rw [h3] at ho; cases ho
            | some Γ1 =>
              rw [h3] at ho
              simp only at ho
              have wi2 : wipe (wipe σ (own.map (·.2))) (own.map (·.2)) = wipe σ (own.map (·.2)) := wipe_idem fun i hi => hi
              have hw' : ∀ Q, g x (wipe σ (own.map (·.2))) Hc Q → g x (wipe σ (own.map (·.2))) Hc (fun σ2 H2 => wipe σ2 (own.map (·.2)) = wipe σ (own.map (·.2)) ∧ Q σ2 H2) := fun Q h => by
                have := hw x _ Hc Q h
                simpa only [wi2] using this
              refine hw' _ (hg ds[i] _ Γ1 h3 _ _ _ Hc x E4 p2 _ fun σ2 E5 oe2 => ?_)
              have fin : ∀ H4, Sm Ha H4 → EnvR C (mask (ow C.fl [] σ Γ) Ha) (D :: Ox) (wipe σ (own.map (·.2))) (wipeG Γ (own.map (·.2))) H4 → True := fun _ _ _ => trivial
              have hkeep : ∀ {Hd : Hp}, Stp (ow C.fl (D :: Ox) σ2 Γ1) Hc Hd → Stp (ow C.fl (D :: Ox) (wipe σ (own.map (·.2))) (wipeG Γ (own.map (·.2)))) Hb Hd := fun s4 => s2.trans (by rw [← oe2]; exact s4)
              cases h4 : ft Γ1 with
              | none => rw [h4] at ho; cases ho
              | some rt =>
                rw [h4] at ho
                cases rt with
                | error x => cases ho
                | ok bb =>
                  refine ht Γ1 _ h4 _ _ σ2 Hc E5 _ fun H3 s3 => ?_
                  cases bb with
                  | false =>
                    cases ho
                    rw [if_neg Bool.false_ne_true]
                    have st := hkeep s3
                    refine ⟨acc, vs, acc', by rw [st.2 D inD]; exact k2, RpK.sm st.1 _ _ k3, E'.step st, k5.trans (st.sm E'.mut)⟩
                  | true =>
                    rw [if_pos rfl]
                    simp only at ho
                    cases h6 : fk Γ1 with
                    | none => rw [h6] at ho; cases ho
                    | some rk =>
                      rw [h6] at ho
                      cases rk with
                      | error x => cases ho
                      | ok kd =>
                        simp only at ho
                        cases h7 : keyOf kd with
                        | none => rw [h7] at ho; cases ho
                        | some kq =>
                          rw [h7] at ho
                          simp only at ho
                          cases h5 : f Γ1 with
                          | none => rw [h5] at ho; cases ho
                          | some rf =>
                            rw [h5] at ho
                            cases rf with
                            | error x => cases ho
                            | ok yd =>
                              cases ho
                              refine hk Γ1 _ h6 _ _ σ2 H3 (E5.step s3) _ fun kv H4 s4 p4 => ?_
                              refine he Γ1 _ h5 _ _ σ2 H4 ((E5.step s3).step s4) _ fun yv H5 s5 p5 => ?_
                              have st := hkeep ((s3.trans s4).trans s5)
                              have kD : H5 D = some (.dK vs) := by rw [st.2 D inD]; exact k2
                              have lv : vs.length < sizeLine := by
                                have l1 := dcF_le k1
                                rw [← rpK_len k3]
                                have : (ds.take i).length ≤ i := List.length_take_le i ds
                                have l2 : ([] : Kvs).length = 0 := rfl
                                exact Nat.lt_of_lt_of_le (show acc.length < big by omega) (by decide)
                              have E6 := E'.step st
                              rw [keyOf_D h7] at p4
                              refine ⟨vs, kq, rp_key p4, kD, lv, dPut kq yd acc, putK vs kq yv, acc', upd_same, ?_, E6.chgOxU trivial List.mem_cons_self hD0, sm_off' (k5.trans (st.sm E'.mut)) hD⟩
                              rw [mask_upd_in inD]
                              exact rpK_put (by rw [oe2] at p5; exact p5) (RpK.sm st.1 _ _ k3)
          · rw [List.take_length] at k1
            rw [h2] at k1
            cases k1
            have e : upd (mask [D] H') D (.dK vs) = H' := by
              funext a
              by_cases q1 : a = D
              · rw [q1, upd_same, k2]
              · rw [upd_ne q1]
                exact mask_out (by simpa using q1)
            have sE := sm_out (O := []) k5 hD
            have := q D (.dK vs) (mask [D] H') (s1.trans (.of_sm sE E1.mut)) (mask_in (by simp)) (.inl ⟨vs, rfl, ?_⟩)
            · rwa [e] at this
            · refine RpK.sm (hm_lt (s1.trans (Stp.of_sm sE E1.mut) |>.ows E.ows)) _ _ (RpK.sm ?_ _ _ k3)
              refine .of_le fun a u ea => ?_
              obtain ⟨e1, e2⟩ := mask_some ea
              have n1 : a ∉ ow C.fl Ox σ Γ := fun z => e2 (ow_cons.mpr (.inl (by rw [oe]; exact z)))
              have n2 : a ≠ D := fun z => e2 (ow_cons.mpr (.inr z))
              rw [mask_out n1, mask_out (by simpa using n2)]
              exact e1
      · rw [if_neg hz] at hr; cases hr
theorem pf_dc (o : On X C k) (cm : X.calm = true) (hi : PIt X C W tg iter wi fi) (ok : BlkOk X.N X.env.scope scope own) (hw : WpG (own.map (·.2)) g) (hfl : (own.map (·.2)).all C.plain = true)
    (hg : ∀ s H c cl fp, PTg (X.blk s H scope (cEnv X scope cl c) fp) C tg g b) (ht : ∀ s H c cl fp, PTf (X.blk s H scope (cEnv X scope cl c) fp) C WF ifs tt ft) (hk : ∀ s H c cl fp, PP (X.blk s H scope (cEnv X scope cl c) fp) C WF .st kx tk fk) (he : ∀ s H c cl fp, PP (X.blk s H scope (cEnv X scope cl c) fp) C WF .st elt te f)
    (hs : ∀ x, foldedSetIterable iter X.env x = pure x := by intro _; rfl) : PF X C W m (.DictComp kx elt [⟨tg, iter, ifs, 0⟩] scope pos) (tDc wi g tt tk te (own.map (·.2))) (dcX fi (own.map (·.2)) b ft fk f) :=
  ⟨pe_dc cm o.nd hi.pe ok (fun s H c cl fp => (hg s H c cl fp).pe) (fun s H c cl fp => (ht s H c cl fp).pe) (fun s H c cl fp => (hk s H c cl fp).pe) (fun s H c cl fp => (he s H c cl fp).pe) hs,
    ev_dc hi.ev (hg X.s_0 X.H_0 0 [] []).ev hw (ht X.s_0 X.H_0 0 [] []).ev (hk X.s_0 X.H_0 0 [] []).ev (he X.s_0 X.H_0 0 [] []).ev (List.all_eq_true.mp hfl)⟩
end
end Z

set_option Elab.async false
set_option linter.all false
set_option maxRecDepth 100000
set_option maxHeartbeats 4000000
namespace Z
open PySem PySem.Spec PyProof.Rows L2

section
variable {X : Cx} {C : Cf} {W : WX} {m : Md} {k : Nat} {a b e : Expr} {ta tb te tk tv : TE} {fa fb f fk fv : PX} {p pos pos' : Pos} {x : Str}
/-! ## x in d, x not in d: d a dict of one's own -/
def dinX (i : Nat) (ng : Bool) (fa : PX) : PX := fun Γ => match fa Γ with
  | some (.ok z) => (match Γ[i]? with
    | some (some (.dict kvs)) => (keyOf z).bind fun q => if (kvs.all fun p => isKey p.1) = true then some (.ok (.bool (dHas q kvs != ng))) else none
    | _ => none)
  | some (.error e) => some (.error e)
  | none => none
theorem has_val {K : PySem.W.Frag} {Hm : Hp} {q : Key} {kvs : Kvs} {ys : List (Key × V)} (p : RpK K Hm kvs ys) : (valV ys q).isSome = dHas q kvs := by
  rw [← valV_any, rpK_any p]
theorem ev_dinO (i : Nat) (ng : Bool) (hfl : C.fl.contains i = true) (ha : Ev C W .rd ta fa) : Ev C W m (if ng then tDNotIn ta (tVar i) else tDIn ta (tVar i)) (dinX i ng fa) := fun Γ r hr H0 Ox σ H E Q q => by
  unfold dinX at hr
  have key : ta σ H fun y H1 => ∃ v, σ[i]? = some (some v) ∧ ∃ a o, v = .ref a ∧ DGet H1 a y o ∧ Q (.bl (o.isSome != ng)) H1 := by
    split at hr
    · rename_i z h1
      refine ha Γ _ h1 H0 Ox σ H E _ fun y H1 s1 p1 => ?_
      have E1 := E.step s1
      split at hr
      · rename_i kvs h0
        obtain ⟨l, ob, e1, e2, e3, e4⟩ := E1.own i _ h0 (yfl hfl)
        refine ⟨.ref l, e1, l, ?_⟩
        cases hq : keyOf z with
        | none => rw [hq] at hr; cases hr
        | some kq =>
          rw [hq] at hr
          have hr : (if (kvs.all fun p => isKey p.1) = true then some (Except.ok (PyData.bool (dHas kq kvs != ng))) else none) = some r := hr
          split at hr
          · rename_i hc
            cases hr
            rw [keyOf_D hq] at p1
            rcases e3 with ⟨ys, rfl, e5⟩ | ⟨ys, rfl, e6, e5⟩
            · refine ⟨valV ys kq, rfl, by rw [rp_key p1]; exact DGet.k e2, ?_⟩
              rw [has_val e5]
              exact q _ H1 s1 mk_bool
            · exact absurd hc (by rw [rpT_keys e5 e6]; decide)
          · cases hr
      · cases hr
    · rename_i x h1
      cases hr
      exact ha Γ _ h1 H0 Ox σ H E _ q
    · cases hr
  cases ng with
  | true =>
    show ta σ H fun y H1 => ∃ v, σ[i]? = some (some v) ∧ ∃ a o, v = .ref a ∧ DGet H1 a y o ∧ Q (.bl (!o.isSome)) H1
    simpa only [Bool.bne_true] using key
  | false =>
    show ta σ H fun y H1 => ∃ v, σ[i]? = some (some v) ∧ ∃ a o, v = .ref a ∧ DGet H1 a y o ∧ Q (.bl o.isSome) H1
    simpa only [Bool.bne_false] using key
theorem pp_dinO (o : On X C k) (i : Nat) (ha : PP X C W .rd a ta fa) (hfl : C.fl.contains i = true := by rfl) (hN : X.N[i]? = some x := by rfl) (hv : Vis X.env.scope x := by first | exact Or.inl rfl | exact Or.inr (Or.inl rfl) | exact Or.inr (Or.inr rfl)) (hd : (x == ("__debug__" : Str)) = false := by decide) (hcd : (x == ("__classdict__" : Str)) = false := by decide) (h1 : behindInMarks .In (Expr.Name x p) = false := by rfl) :
    PP X C W m (.Compare a [.In] [.Name x p] pos) (tDIn ta (tVar i)) (dinX i false fa) := ⟨pe_cmp (pc_din (by have := o.un; omega) ha.pe (pe_var hN hv hd hcd)) h1, ev_dinO i false hfl ha.ev⟩
theorem pp_dninO (o : On X C k) (i : Nat) (ha : PP X C W .rd a ta fa) (hfl : C.fl.contains i = true := by rfl) (hN : X.N[i]? = some x := by rfl) (hv : Vis X.env.scope x := by first | exact Or.inl rfl | exact Or.inr (Or.inl rfl) | exact Or.inr (Or.inr rfl)) (hd : (x == ("__debug__" : Str)) = false := by decide) (hcd : (x == ("__classdict__" : Str)) = false := by decide) (h1 : behindInMarks .NotIn (Expr.Name x p) = false := by rfl) :
    PP X C W m (.Compare a [.NotIn] [.Name x p] pos) (tDNotIn ta (tVar i)) (dinX i true fa) := ⟨pe_cmp (pc_dnotin (by have := o.un; omega) ha.pe (pe_var hN hv hd hcd)) h1, ev_dinO i true hfl ha.ev⟩
theorem ptt_pc {t : TE} (ha : Ev C W .rd t fa) (hp : PT X e (tB t)) : PTt X C W e (tB t) (toT fa) := by
  refine ⟨hp, fun Γ r hr H0 Ox σ H E Q q => ?_⟩
  unfold toT at hr
  split at hr
  · rename_i b h1
    cases hr
    exact ha Γ _ h1 H0 Ox σ H E _ fun v H' s p => ⟨b, rp_bool p, q H' s⟩
  · rename_i e h1
    cases hr
    exact ha Γ _ h1 H0 Ox σ H E _ q
  · cases hr
theorem pt_dinO (o : On X C k) (i : Nat) (ha : PP X C W .rd a ta fa) (hfl : C.fl.contains i = true := by rfl) (hN : X.N[i]? = some x := by rfl) (hv : Vis X.env.scope x := by first | exact Or.inl rfl | exact Or.inr (Or.inl rfl) | exact Or.inr (Or.inr rfl)) (hd : (x == ("__debug__" : Str)) = false := by decide) (hcd : (x == ("__classdict__" : Str)) = false := by decide) (h1 : behindInMarks .In (Expr.Name x p) = false := by rfl) :
    PTt X C W (.Compare a [.In] [.Name x p] pos) (tB (tDIn ta (tVar i))) (toT (dinX i false fa)) := ptt_pc (ev_dinO i false hfl ha.ev) (pt_cmp (pc_din (by have := o.un; omega) ha.pe (pe_var hN hv hd hcd)) h1)
theorem pt_dninO (o : On X C k) (i : Nat) (ha : PP X C W .rd a ta fa) (hfl : C.fl.contains i = true := by rfl) (hN : X.N[i]? = some x := by rfl) (hv : Vis X.env.scope x := by first | exact Or.inl rfl | exact Or.inr (Or.inl rfl) | exact Or.inr (Or.inr rfl)) (hd : (x == ("__debug__" : Str)) = false := by decide) (hcd : (x == ("__classdict__" : Str)) = false := by decide) (h1 : behindInMarks .NotIn (Expr.Name x p) = false := by rfl) :
    PTt X C W (.Compare a [.NotIn] [.Name x p] pos) (tB (tDNotIn ta (tVar i))) (toT (dinX i true fa)) := ptt_pc (ev_dinO i true hfl ha.ev) (pt_cmp (pc_dnotin (by have := o.un; omega) ha.pe (pe_var hN hv hd hcd)) h1)
end
end Z

set_option Elab.async false
set_option linter.all false
set_option maxRecDepth 100000
set_option maxHeartbeats 4000000
namespace Z
open PySem PySem.Spec PyProof.Rows L2

section
variable {X : Cx} {C : Cf} {W : WX} {m : Md} {k : Nat} {a b : Expr} {ta tb : TE} {fa fb : PX} {pos : Pos}
/-! ## {k: v}, a new dict with one pair -/
def d1X (fa fb : PX) : PX := fun Γ => match fa Γ with
  | some (.ok z) => (match fb Γ with
    | some (.ok d) => (keyOf z).map fun q => .ok (.dict [(keyD q, d)])
    | _ => none)
  | _ => none
theorem ev_d1 (ha : Ev C W .st ta fa) (hb : Ev C W .st tb fb) : EvF C W m (tDisp [(ta, tb)]) (d1X fa fb) := fun Γ r hr H0 Ox σ H E Q q => by
  unfold d1X at hr
  cases h1 : fa Γ with
  | none => rw [h1] at hr; cases hr
  | some r1 =>
    rw [h1] at hr
    cases r1 with
    | error x => cases hr
    | ok z =>
      simp only at hr
      cases h2 : fb Γ with
      | none => rw [h2] at hr; cases hr
      | some r2 =>
        rw [h2] at hr
        cases r2 with
        | error x => cases hr
        | ok d =>
          simp only at hr
          cases h3 : keyOf z with
          | none => rw [h3] at hr; cases hr
          | some kq =>
            rw [h3] at hr
            cases hr
            intro D hD
            have E3 := E.rebase.addOxU (u := .dK []) trivial hD
            have inD : ∀ {σ' : L2.St} {Γ' : Ga}, D ∈ ow C.fl (D :: Ox) σ' Γ' := mem_ow.mpr (.inr List.mem_cons_self)
            refine ha Γ _ h1 _ _ σ _ E3 _ fun x H1 s1 p1 => ?_
            refine hb Γ _ h2 _ _ σ _ (E3.step s1) _ fun y H2 s2 p2 => ?_
            have st := s1.trans s2
            have kD : H2 D = some (.dK []) := by rw [st.2 D inD]; exact upd_same
            rw [keyOf_D h3] at p1
            refine ⟨kD, [(kq, y)], by rw [rp_key p1]; rfl, by simp, ?_⟩
            have smD : Sm H H2 := (Sm.new hD).trans (st.sm E3.mut)
            have e : upd (mask [D] H2) D (.dK [(kq, y)]) = upd H2 D (.dK (mergeK [] [(kq, y)])) := by
              funext a
              by_cases q1 : a = D
              · rw [q1, upd_same, upd_same]; rfl
              · rw [upd_ne q1, upd_ne q1]
                exact mask_out (by simpa using q1)
            have sE := sm_out (O := []) smD hD
            have fin := q D (.dK [(kq, y)]) (mask [D] H2) (.of_sm sE E.mut) (mask_in (by simp)) (.inl ⟨_, rfl, ?_⟩)
            · rwa [e] at fin
            · simp only [RpK]
              refine ⟨kq, y, [], rfl, rfl, ?_, rfl⟩
              refine Rp.sm (hm_lt ((Stp.of_sm sE E.mut).ows E.ows)) _ _ (Rp.sm ?_ _ _ p2)
              refine .of_le fun a u ea => ?_
              obtain ⟨e1, e2⟩ := mask_some ea
              have n1 : a ∉ ow C.fl Ox σ Γ := fun z => e2 (ow_cons.mpr (.inl z))
              have n2 : a ≠ D := fun z => e2 (ow_cons.mpr (.inr z))
              rw [mask_out n1, mask_out (by simpa using n2)]
              exact e1
theorem pf_d1 (ha : PP X C W .st a ta fa) (hb : PP X C W .st b tb fb) : PF X C W m (.Dict [some a] [b] pos) (tDisp [(ta, tb)]) (d1X fa fb) := ⟨pe_disp (pps_cons ha.pe hb.pe pps_nil) rfl rfl (by simp) (by simp), ev_d1 ha.ev hb.ev⟩
end
end Z

set_option Elab.async false
set_option linter.all false
set_option maxRecDepth 100000
set_option maxHeartbeats 4000000
namespace Z
open PySem PySem.Spec PyProof.Rows L2

/-! ## what is read, whether it is locked or not -/
def nf : HO → Bool
  | .lst _ => true
  | .tup _ => true
  | .dK _ => true
  | .dT _ => true
  | _ => false
def Rdm (H H' : Hp) : Prop := ∀ a u, nf u = true → Rd H a u → Rd H' a u
section
variable {K : PySem.W.Frag} {H H' : Hp}
mutual
theorem Rp.rdm (e : Rdm H H') : ∀ (d : PyData) (v : V), Rp K H d v → Rp K H' d v
  | .none, _, h => h
  | .bool _, _, h => h
  | .int _, _, h => h
  | .str _, _, h => h
  | .list ds, _, h => by
    simp only [Rp] at h ⊢
    obtain ⟨a, xs, h1, h2, h3⟩ := h
    exact ⟨a, xs, h1, h2.imp (e a _ rfl) id, RpL.rdm e ds xs h3⟩
  | .tuple ds, _, h => by
    simp only [Rp] at h ⊢
    obtain ⟨a, xs, h1, h2, h3⟩ := h
    exact ⟨a, xs, h1, h2.imp (e a _ rfl) id, RpL.rdm e ds xs h3⟩
  | .dict kvs, _, h => by
    simp only [Rp] at h ⊢
    obtain ⟨a, h1, h2⟩ := h
    refine ⟨a, h1, ?_⟩
    rcases h2 with ⟨ys, r, q⟩ | ⟨ys, r, q⟩
    · exact .inl ⟨ys, e a _ rfl r, RpK.rdm e kvs ys q⟩
    · exact .inr ⟨ys, e a _ rfl r, RpT.rdm e kvs ys q⟩
theorem RpL.rdm (e : Rdm H H') : ∀ (ds : List PyData) (vs : List V), RpL K H ds vs → RpL K H' ds vs
  | [], _, h => by simp only [RpL] at h ⊢; exact h
  | d :: ds, _, h => by
    simp only [RpL] at h ⊢
    obtain ⟨v, r, h1, h2, h3⟩ := h
    exact ⟨v, r, h1, Rp.rdm e d v h2, RpL.rdm e ds r h3⟩
theorem RpK.rdm (e : Rdm H H') : ∀ (ds : List (PyData × PyData)) (vs : List (Key × V)), RpK K H ds vs → RpK K H' ds vs
  | [], _, h => by simp only [RpK] at h ⊢; exact h
  | (k, d) :: ds, _, h => by
    simp only [RpK] at h ⊢
    obtain ⟨q, y, s, h1, h2, h3, h4⟩ := h
    exact ⟨q, y, s, h1, h2, Rp.rdm e d y h3, RpK.rdm e ds s h4⟩
theorem RpT.rdm (e : Rdm H H') : ∀ (ds : List (PyData × PyData)) (vs : List (List Key × V)), RpT K H ds vs → RpT K H' ds vs
  | [], _, h => by simp only [RpT] at h ⊢; exact h
  | (k, d) :: ds, _, h => by
    simp only [RpT] at h ⊢
    obtain ⟨q, y, s, h1, h2, h3, h4⟩ := h
    exact ⟨q, y, s, h1, h2, Rp.rdm e d y h3, RpT.rdm e ds s h4⟩
end
theorem Cel.rdm (e : Rdm H H') {d : PyData} {o : HO} (h : Cel K H d o) : Cel K H' d o := by
  cases d with
  | list ds => obtain ⟨xs, h1, h2⟩ := h; exact ⟨xs, h1, RpL.rdm e _ _ h2⟩
  | dict kvs =>
    rcases h with ⟨ys, h1, h2⟩ | ⟨ys, h1, h0, h2⟩
    · exact .inl ⟨ys, h1, RpK.rdm e _ _ h2⟩
    · exact .inr ⟨ys, h1, h0, RpT.rdm e _ _ h2⟩
  | none => exact h
  | bool _ => exact h
  | int _ => exact h
  | str _ => exact h
  | tuple _ => exact h
theorem rdm_lock {a : Addr} {od : Obj} {u : HO} (h : H a = some u) (hu : nf u = true) : Rdm H (upd H a (.frz od u)) := fun b w hw r => by
  by_cases e : b = a
  · rw [e] at r ⊢
    rcases r with r | ⟨o, r⟩
    · rw [h] at r; cases r; exact .inr ⟨od, upd_same⟩
    · rw [h] at r; cases r; cases hu
  · rcases r with r | ⟨o, r⟩
    · exact .inl (by rw [upd_ne e]; exact r)
    · exact .inr ⟨o, by rw [upd_ne e]; exact r⟩
theorem rdm_unlock {a : Addr} {od : Obj} {u : HO} (h : H a = some (.frz od u)) : Rdm H (upd H a u) := fun b w hw r => by
  by_cases e : b = a
  · rw [e] at r ⊢
    rcases r with r | ⟨o, r⟩
    · rw [h] at r; cases r; cases hw
    · rw [h] at r; cases r; exact .inl upd_same
  · rcases r with r | ⟨o, r⟩
    · exact .inl (by rw [upd_ne e]; exact r)
    · exact .inr ⟨o, by rw [upd_ne e]; exact r⟩
end
/-! ## the keys, the pairs of a locked dict, walked -/
section
variable {K : PySem.W.Frag} {Hm : Hp} {a : Addr} {od : Obj} {kvs : Kvs} {ys : List (Key × V)}
theorem rpK_at {kvs : Kvs} {ys : List (Key × V)} (p : RpK K Hm kvs ys) {i : Nat} {q : PyData × PyData} (h : kvs[i]? = some q) : ∃ k v, ys[i]? = some (k, v) ∧ q.1 = keyD k ∧ Rp K Hm q.2 v := by
  induction kvs generalizing ys i with
  | nil => cases h
  | cons kd r ih =>
    obtain ⟨k, d⟩ := kd
    simp only [RpK] at p
    obtain ⟨q', y, s, rfl, rfl, h2, h3⟩ := p
    cases i with
    | zero => cases h; exact ⟨q', y, rfl, rfl, h2⟩
    | succ i => exact ih h3 h
theorem mk_keyV {k : Key} : Rp K Hm (keyD k) (kV k) := by
  cases k with
  | inl i => exact mk_int
  | inr x => exact mk_str
theorem wlk_keys (h : Hm a = some (.frz od (.dK ys))) (p : RpK K Hm kvs ys) : Wlk K Hm (Itk a od ys) (kvs.map (·.1)) := by
  refine ⟨fun H => H a = some (.frz od (.dK ys)), fun i H x H' => H' = H ∧ ∃ k v, ys[i]? = some (k, v) ∧ x = kV k, ⟨fun i H hi g => ?_, fun H g => ?_, fun i H x H' hi g y => y⟩, fun H s => s.1 _ _ h (fun ps z => by cases z), fun i d H x H' hd y O s mu => ?_⟩
  · rw [List.length_map, rpK_len p] at hi
    exact ⟨g, hi⟩
  · rw [List.length_map, rpK_len p]
    exact ⟨g, Nat.le_refl _⟩
  · obtain ⟨rfl, k, v, hk, rfl⟩ := y
    rw [List.getElem?_map] at hd
    cases hq : kvs[i]? with
    | none => rw [hq] at hd; cases hd
    | some q =>
      rw [hq] at hd
      cases hd
      obtain ⟨k2, v2, e1, e2, e3⟩ := rpK_at p hq
      rw [hk] at e1
      cases e1
      exact ⟨.refl _ _, by show Rp K _ q.1 _; rw [e2]; exact mk_keyV⟩
def pairsD (kvs : Kvs) : List PyData := kvs.map fun p => .tuple [p.1, p.2]
theorem wlk_items (h : Hm a = some (.frz od (.dK ys))) (p : RpK K Hm kvs ys) : Wlk K Hm (Iti a od ys) (pairsD kvs) := by
  refine ⟨fun H => H a = some (.frz od (.dK ys)), fun i H x H' => ∃ T k v, ys[i]? = some (k, v) ∧ x = .ref T ∧ H T = none ∧ H' = upd H T (.tup [kV k, v]), ⟨fun i H hi g => ?_, fun H g => ?_, fun i H x H' hi g y => y⟩, fun H s => s.1 _ _ h (fun ps z => by cases z), fun i d H x H' hd y O s mu => ?_⟩
  · unfold pairsD at hi
    rw [List.length_map, rpK_len p] at hi
    exact ⟨g, hi⟩
  · unfold pairsD
    rw [List.length_map, rpK_len p]
    exact ⟨g, Nat.le_refl _⟩
  · obtain ⟨T, k, v, hk, rfl, hT, rfl⟩ := y
    unfold pairsD at hd
    rw [List.getElem?_map] at hd
    cases hq : kvs[i]? with
    | none => rw [hq] at hd; cases hd
    | some q =>
      rw [hq] at hd
      cases hd
      obtain ⟨k2, v2, e1, e2, e3⟩ := rpK_at p hq
      rw [hk] at e1
      cases e1
      refine ⟨.new mu hT, ?_⟩
      exact new_tup (K := K) (m := .st) (O := O) (Ox := []) (H := H) (ds := [q.1, q.2]) (xs := [kV k, v]) (p := T) ⟨mu, fun _ z => nomatch z⟩ hT (rpl_cons (by rw [e2]; exact mk_keyV) (rpl_cons (e3.sm s) rpl_nil))
end
end Z

set_option Elab.async false
set_option linter.all false
set_option maxRecDepth 100000
set_option maxHeartbeats 4000000
namespace Z
open PySem PySem.Spec PyProof.Rows L2

/-! ## walks over the keys of a dict that stays -/
def fKeys (i : Nat) : PIx := fun Γ => match Γ[i]? with
  | some (some (.dict kvs)) => if kvs ≠ [] ∧ (kvs.all fun p => isKey p.1) = true then some (.ok (kvs.map (·.1))) else none
  | _ => none
theorem fKeys_ok (i : Nat) (Γ : Ga) (x : Er) : fKeys i Γ ≠ some (.error x) := fun h => by
  unfold fKeys at h
  split at h
  · split at h <;> cases h
  · cases h
/-- as EvF, where the dict in a slot is locked -/
def EvFz (i : Nat) (C : Cf) (W : WX) (m : Md) (te : TE) (f : PX) : Prop := ∀ Γ r, f Γ = some r → ∀ H0 Ox σ H, EnvR C H0 Ox σ Γ H →
  (∃ a od ys kvs, σ[i]? = some (some (.ref a)) ∧ H a = some (.frz od (.dK ys)) ∧ Γ[i]? = some (some (.dict kvs)) ∧ RpK C.K (mask (ow C.fl Ox σ Γ) H) kvs ys) → ∀ Q : VK,
  (match r with
    | .ok d => ∀ l o H', Stp (ow C.fl Ox σ Γ) H H' → H' l = none → Cel C.K (hm m (ow C.fl Ox σ Γ) Ox H') d o → Q (.ref l) (upd H' l o)
    | .error e => ∀ H', Stp (ow C.fl Ox σ Γ) H H' → ErW C W σ e H') → te σ H Q
theorem pe_or {X : Cx} {e : Expr} {t u : TE} (h1 : PE X e t) (h2 : PE X e u) : PE X e (fun σ H Q => t σ H Q ∨ u σ H Q) := ⟨fun pins s σ H Q I h => h.elim (h1.run pins s σ H Q I) (h2.run pins s σ H Q I)⟩
section
variable {C : Cf} {H0 H : Hp} {Ox : List Addr} {σ : L2.St} {Γ : Ga}
theorem EnvR.lock (E : EnvR C H0 Ox σ Γ H) {a : Addr} {u : HO} (od : Obj) (h : H a = some u) (hu : nf u = true) (hn : a ∉ ow C.fl Ox σ Γ) : EnvR C (mask (ow C.fl [] σ Γ) (upd H a (.frz od u))) Ox σ Γ (upd H a (.frz od u)) := by
  have hn0 : a ∉ ow C.fl [] σ Γ := fun z => hn (ow_sub a z)
  have me : mask (ow C.fl Ox σ Γ) (upd H a (.frz od u)) = upd (mask (ow C.fl Ox σ Γ) H) a (.frz od u) := mask_upd_out hn
  have rd : Rdm (mask (ow C.fl Ox σ Γ) H) (mask (ow C.fl Ox σ Γ) (upd H a (.frz od u))) := by
    rw [me]
    exact rdm_lock (by rw [mask_out hn]; exact h) hu
  refine ⟨E.len, fun P hP => ?_, .refl _, fun i d hd hi => ?_, fun i d hd hi => ?_, E.apart, fun l hl => ?_, E.pn⟩
  · obtain ⟨ps, e, t⟩ := E.sm.2 P (E.tabs P hP)
    refine ⟨ps, ?_, t⟩
    obtain ⟨e1, e2⟩ := mask_some e
    rw [mask_out e2, upd_ne (fun z => by rw [z, h] at e1; cases e1; cases hu)]
    exact e1
  · obtain ⟨v, e1, e2⟩ := E.val i d hd hi
    exact ⟨v, e1, e2.rdm rd⟩
  · obtain ⟨l, o, e1, e2, e3, e4⟩ := E.own i d hd hi
    have ne : l ≠ a := fun z => hn (by rw [← z]; exact mem_ow.mpr (.inl ⟨i, hi, ow_of hd e1⟩))
    exact ⟨l, o, e1, by rw [upd_ne ne]; exact e2, e3.rdm rd, e4⟩
  · have ne : l ≠ a := fun z => hn (by rw [← z]; exact mem_ow.mpr (.inr hl))
    rw [upd_ne ne]
    exact E.ox l hl
theorem stp_unlock {O : List Addr} {H' : Hp} {a : Addr} {od : Obj} {u : HO} (hn : a ∉ O) (h : H a = some u) (hu : nf u = true) (s : Stp O (upd H a (.frz od u)) H') : H' a = some (.frz od u) ∧ Stp O H (upd H' a u) := by
  have ha : H' a = some (.frz od u) := by
    have := s.1.1 a (.frz od u) (by rw [mask_out hn, upd_same]) (fun ps z => by cases z)
    rwa [mask_out hn] at this
  refine ⟨ha, ⟨fun b o e k => ?_, fun P t => ?_⟩, fun l hl => ?_⟩
  · obtain ⟨e1, e2⟩ := mask_some e
    rw [mask_out e2]
    by_cases z : b = a
    · rw [z] at e1 ⊢
      rw [h] at e1
      rw [upd_same]
      exact e1
    · rw [upd_ne z]
      have := s.1.1 b o (by rw [mask_out e2, upd_ne z]; exact e1) k
      rwa [mask_out e2] at this
  · obtain ⟨ps, e, t1⟩ := t
    obtain ⟨e1, e2⟩ := mask_some e
    have z : P ≠ a := fun z => by rw [z, h] at e1; cases e1; cases hu
    obtain ⟨qs, f1, f2⟩ := s.1.2 P ⟨ps, by rw [mask_out e2, upd_ne z]; exact e1, t1⟩
    exact ⟨qs, by rw [mask_out e2] at f1 ⊢; rw [upd_ne z]; exact f1, f2⟩
  · have z : l ≠ a := fun z => hn (by rw [← z]; exact hl)
    rw [upd_ne z, s.2 l hl, upd_ne z]
end
theorem hm_unlock {m : Md} {O Ox : List Addr} {H : Hp} {a : Addr} {od : Obj} {u : HO} (hn : a ∉ O) (hx : a ∉ Ox) (h : H a = some (.frz od u)) : Rdm (hm m O Ox H) (hm m O Ox (upd H a u)) := by
  cases m with
  | st => show Rdm (mask O H) (mask O (upd H a u)); rw [mask_upd_out hn]; exact rdm_unlock (od := od) (by rw [mask_out hn]; exact h)
  | mid => show Rdm (mask Ox H) (mask Ox (upd H a u)); rw [mask_upd_out hx]; exact rdm_unlock (od := od) (by rw [mask_out hx]; exact h)
  | rd => exact rdm_unlock h
theorem evF_lock {C : Cf} {W : WX} {m : Md} {te : TE} {f : PX} {i : Nat} (hp : C.plain i = true) (hok : ∀ Γ r, f Γ = some r → (∃ d, r = .ok d) ∧ ∃ kvs, Γ[i]? = some (some (.dict kvs)) ∧ kvs ≠ [] ∧ (kvs.all fun p => isKey p.1) = true) (h : EvFz i C W m te f) : EvF C W m (fun σ H Q => te σ H Q ∨ tLockE te σ H Q) f := fun Γ r hr H0 Ox σ H E Q q => by
  obtain ⟨⟨d, rfl⟩, kvs, k1, k2, k3⟩ := hok Γ r hr
  obtain ⟨v, e1, e2⟩ := E.val i _ k1 (pl1 hp)
  simp only [Rp] at e2
  obtain ⟨a, rfl, ⟨ys, r1, r2⟩ | ⟨ys, r1, r2⟩⟩ := e2
  · rcases r1 with r1 | ⟨od, r1⟩
    · obtain ⟨f1, f2⟩ := mask_some r1
      refine .inr ⟨a, .dK ys, f1, trivial, fun od => ?_⟩
      have E' := E.lock od f1 rfl f2
      refine h Γ _ hr _ Ox σ _ E' ⟨a, od, ys, kvs, e1, upd_same, k1, ?_⟩ _ fun l o H' s hl p => ?_
      · rw [mask_upd_out f2]
        exact RpK.rdm (rdm_lock r1 rfl) _ _ r2
      · obtain ⟨g1, g2⟩ := stp_unlock f2 f1 rfl s
        have ne : a ≠ l := fun z => by rw [z, hl] at g1; cases g1
        refine ⟨by rw [upd_ne ne]; exact g1, ?_⟩
        have e : upd (upd H' l o) a (.dK ys) = upd (upd H' a (.dK ys)) l o := by
          funext b
          by_cases z1 : b = a
          · rw [z1, upd_same, upd_ne ne, upd_same]
          · by_cases z2 : b = l
            · rw [z2, upd_ne (Ne.symm ne), upd_same, upd_same]
            · rw [upd_ne z1, upd_ne z2, upd_ne z2, upd_ne z1]
        rw [e]
        refine q l o _ g2 (by rw [upd_ne (Ne.symm ne)]; exact hl) (p.rdm (hm_unlock f2 (fun z => f2 (mem_ow.mpr (.inr z))) g1))
    · obtain ⟨f1, f2⟩ := mask_some r1
      exact .inl (h Γ _ hr H0 Ox σ H E ⟨a, od, ys, kvs, e1, f1, k1, r2⟩ Q q)
  · exact absurd k3 (by rw [rpT_keys r2 k2]; decide)
section
variable {X : Cx} {C : Cf} {W : WX} {m : Md} {k : Nat} {kx elt tg iter : Expr} {ifs : List Expr} {scope : Scope} {own : List (Str × Nat)} {pos : Pos} {wi : TI} {fi : PIx} {g : TG} {b : BX} {tt : TT} {ft : PTx} {tk te : TE} {fk f : PX}
theorem ev_dcK (i : Nat) (hg : EvG C g b) (hw : WpG (own.map (·.2)) g) (ht : EvT C WF tt ft) (hk : Ev C WF .st tk fk) (he : Ev C WF .st te f) (hfl : ∀ i ∈ own.map (·.2), C.plain i = true) : EvFz i C W m (tDc (iKeys (tVar i)) g tt tk te (own.map (·.2))) (dcX (fKeys i) (own.map (·.2)) b ft fk f) := fun Γ r hr H0 Ox σ H E Z Q q => by
  unfold dcX at hr
  cases h1 : fKeys i Γ with
  | none => rw [h1] at hr; cases hr
  | some r1 =>
    rw [h1] at hr
    cases r1 with
    | error x =>
      exact absurd h1 (fKeys_ok i Γ x)
    | ok ds =>
      simp only at hr
      by_cases hz : ds.length ≤ big
      · rw [if_pos hz] at hr
        cases h2 : dcF (dcI (own.map (·.2)) b ft fk f Γ) [] ds with
        | none => rw [h2] at hr; cases hr
        | some ys =>
          rw [h2] at hr
          cases hr
          obtain ⟨a, od, ys0, kvs0, z1, z2, z3, z4⟩ := Z
          have hds : ds = kvs0.map (·.1) := by
            unfold fKeys at h1
            rw [z3] at h1
            simp only at h1
            split at h1
            · cases h1; rfl
            · cases h1
          have hnot : a ∉ ow C.fl Ox σ Γ := fun z => by have := E.mut a z; rw [z2] at this; exact this
          have w := wlk_keys (K := C.K) (Hm := mask (ow C.fl Ox σ Γ) H) (by rw [mask_out hnot]; exact z2) z4
          rw [← hds] at w
          refine ⟨.ref a, z1, a, od, rfl, .inl ⟨ys0, z2, fun D hD => ?_⟩⟩
          have s1 : Stp (ow C.fl Ox σ Γ) H H := .refl _ _
          have E1 := E.step s1
          obtain ⟨G, Y, wk, hG, hY⟩ := w
          obtain ⟨E2, oe⟩ := E1.rebase.wipe hfl
          have E3 := E2.addOxU (u := .dK []) trivial hD
          have hD0 : mask (ow C.fl [] σ Γ) H D = none := by
            unfold mask
            split
            · rfl
            · exact hD
          have gr : ∀ {Γ' : Ga} {σ' : L2.St} {H' : Hp}, EnvR C (mask (ow C.fl [] σ Γ) H) (D :: Ox) σ' Γ' H' → Sm (mask (ow C.fl Ox σ Γ) H) (mask (ow C.fl (D :: Ox) σ' Γ') H') := fun E' => by
            have h3 := E'.all
            have e : mask (D :: Ox) (mask (ow C.fl [] σ Γ) H) = mask (ow C.fl Ox σ Γ) H := by
              rw [← mask_two (Ox := Ox) (σ := σ) (Γ := Γ) (C := C)]
              funext a
              by_cases q1 : a ∈ Ox
              · rw [mask_in q1, mask_in (List.mem_cons_of_mem _ q1)]
              · rw [mask_out q1]
                by_cases q2 : a = D
                · rw [q2, mask_in List.mem_cons_self, hD0]
                · exact mask_out fun q3 => (List.mem_cons.mp q3).elim q2 q1
            rwa [e] at h3
          have inD : ∀ {σ' : L2.St} {Γ' : Ga}, D ∈ ow C.fl (D :: Ox) σ' Γ' := mem_ow.mpr (.inr List.mem_cons_self)
          refine lc_itO wk (fun i H' => ∃ acc vs, dcF (dcI (own.map (·.2)) b ft fk f Γ) [] (ds.take i) = some acc ∧ H' D = some (.dK vs) ∧ RpK C.K (mask (ow C.fl (D :: Ox) (wipe σ (own.map (·.2))) (wipeG Γ (own.map (·.2)))) H') acc vs ∧
            EnvR C (mask (ow C.fl [] σ Γ) H) (D :: Ox) (wipe σ (own.map (·.2))) (wipeG Γ (own.map (·.2))) H' ∧ Sm H H') ⟨[], [], rfl, upd_same, by simp only [RpK], E3, Sm.new hD⟩ (fun i H' _ ⟨_, _, _, _, _, E', _⟩ => hG H' ((gr E').trans (mask_le _ _))) (fun i x Hb Hc hlt ⟨acc, vs, k1, k2, k3, E', k5⟩ y => ?_) fun H' ⟨acc, vs, k1, k2, k3, E', k5⟩ => ?_
          · have hd : ds[i]? = some ds[i] := by simp [hlt]
            obtain ⟨s2, p2⟩ := hY i ds[i] Hb x Hc hd y _ (gr E') E'.mut
            have E4 := E'.step s2
            obtain ⟨o, ho⟩ := dcF_item h2 ds[i] (List.getElem_mem hlt)
            have tkk : ds.take (i + 1) = ds.take i ++ [ds[i]] := by rw [List.take_succ, hd]; rfl
            have acc' : dcF (dcI (own.map (·.2)) b ft fk f Γ) [] (ds.take (i + 1)) = some (dcO acc o) := by rw [tkk]; exact dcF_snoc ho k1
            unfold dcI at ho
            cases h3 : b ds[i] (wipeG Γ (own.map (·.2))) with
            | none => rw [h3] at ho; cases ho
            | some Γ1 =>
              rw [h3] at ho
              simp only at ho
              have wi2 : wipe (wipe σ (own.map (·.2))) (own.map (·.2)) = wipe σ (own.map (·.2)) := wipe_idem fun i hi => hi
              have hw' : ∀ Q, g x (wipe σ (own.map (·.2))) Hc Q → g x (wipe σ (own.map (·.2))) Hc (fun σ2 H2 => wipe σ2 (own.map (·.2)) = wipe σ (own.map (·.2)) ∧ Q σ2 H2) := fun Q h => by
                have := hw x _ Hc Q h
                simpa only [wi2] using this
              refine hw' _ (hg ds[i] _ Γ1 h3 _ _ _ Hc x E4 p2 _ fun σ2 E5 oe2 => ?_)
              have fin : ∀ H4, Sm H H4 → EnvR C (mask (ow C.fl [] σ Γ) H) (D :: Ox) (wipe σ (own.map (·.2))) (wipeG Γ (own.map (·.2))) H4 → True := fun _ _ _ => trivial
              have hkeep : ∀ {Hd : Hp}, Stp (ow C.fl (D :: Ox) σ2 Γ1) Hc Hd → Stp (ow C.fl (D :: Ox) (wipe σ (own.map (·.2))) (wipeG Γ (own.map (·.2)))) Hb Hd := fun s4 => s2.trans (by rw [← oe2]; exact s4)
              cases h4 : ft Γ1 with
              | none => rw [h4] at ho; cases ho
              | some rt =>
                rw [h4] at ho
                cases rt with
                | error x => cases ho
                | ok bb =>
                  refine ht Γ1 _ h4 _ _ σ2 Hc E5 _ fun H3 s3 => ?_
                  cases bb with
                  | false =>
                    cases ho
                    rw [if_neg Bool.false_ne_true]
                    have st := hkeep s3
                    refine ⟨acc, vs, acc', by rw [st.2 D inD]; exact k2, RpK.sm st.1 _ _ k3, E'.step st, k5.trans (st.sm E'.mut)⟩
                  | true =>
                    rw [if_pos rfl]
                    simp only at ho
                    cases h6 : fk Γ1 with
                    | none => rw [h6] at ho; cases ho
                    | some rk =>
                      rw [h6] at ho
                      cases rk with
                      | error x => cases ho
                      | ok kd =>
                        simp only at ho
                        cases h7 : keyOf kd with
                        | none => rw [h7] at ho; cases ho
                        | some kq =>
                          rw [h7] at ho
                          simp only at ho
                          cases h5 : f Γ1 with
                          | none => rw [h5] at ho; cases ho
                          | some rf =>
                            rw [h5] at ho
                            cases rf with
                            | error x => cases ho
                            | ok yd =>
                              cases ho
                              refine hk Γ1 _ h6 _ _ σ2 H3 (E5.step s3) _ fun kv H4 s4 p4 => ?_
                              refine he Γ1 _ h5 _ _ σ2 H4 ((E5.step s3).step s4) _ fun yv H5 s5 p5 => ?_
                              have st := hkeep ((s3.trans s4).trans s5)
                              have kD : H5 D = some (.dK vs) := by rw [st.2 D inD]; exact k2
                              have lv : vs.length < sizeLine := by
                                have l1 := dcF_le k1
                                rw [← rpK_len k3]
                                have : (ds.take i).length ≤ i := List.length_take_le i ds
                                have l2 : ([] : Kvs).length = 0 := rfl
                                exact Nat.lt_of_lt_of_le (show acc.length < big by omega) (by decide)
                              have E6 := E'.step st
                              rw [keyOf_D h7] at p4
                              refine ⟨vs, kq, rp_key p4, kD, lv, dPut kq yd acc, putK vs kq yv, acc', upd_same, ?_, E6.chgOxU trivial List.mem_cons_self hD0, sm_off' (k5.trans (st.sm E'.mut)) hD⟩
                              rw [mask_upd_in inD]
                              exact rpK_put (by rw [oe2] at p5; exact p5) (RpK.sm st.1 _ _ k3)
          · rw [List.take_length] at k1
            rw [h2] at k1
            cases k1
            have e : upd (mask [D] H') D (.dK vs) = H' := by
              funext a
              by_cases q1 : a = D
              · rw [q1, upd_same, k2]
              · rw [upd_ne q1]
                exact mask_out (by simpa using q1)
            have sE := sm_out (O := []) k5 hD
            have := q D (.dK vs) (mask [D] H') (s1.trans (.of_sm sE E1.mut)) (mask_in (by simp)) (.inl ⟨vs, rfl, ?_⟩)
            · rwa [e] at this
            · refine RpK.sm (hm_lt (s1.trans (Stp.of_sm sE E1.mut) |>.ows E.ows)) _ _ (RpK.sm ?_ _ _ k3)
              refine .of_le fun a u ea => ?_
              obtain ⟨e1, e2⟩ := mask_some ea
              have n1 : a ∉ ow C.fl Ox σ Γ := fun z => e2 (ow_cons.mpr (.inl (by rw [oe]; exact z)))
              have n2 : a ≠ D := fun z => e2 (ow_cons.mpr (.inr z))
              rw [mask_out n1, mask_out (by simpa using n2)]
              exact e1
      · rw [if_neg hz] at hr; cases hr
theorem dcK_ok {i : Nat} {vs : List Nat} (Γ : Ga) (r : Res) (h : dcX (fKeys i) vs b ft fk f Γ = some r) : (∃ d, r = .ok d) ∧ ∃ kvs, Γ[i]? = some (some (.dict kvs)) ∧ kvs ≠ [] ∧ (kvs.all fun p => isKey p.1) = true := by
  unfold dcX fKeys at h
  split at h
  · rename_i ds h1
    split at h1
    · rename_i kvs h2
      split at h1
      · rename_i hc
        split at h
        · cases h3 : dcF (dcI vs b ft fk f Γ) [] ds with
          | none => rw [h3] at h; cases h
          | some ys => rw [h3] at h; cases h; exact ⟨⟨_, rfl⟩, kvs, h2, hc.1, hc.2⟩
        · cases h
      · cases h1
    · cases h1
  · rename_i e h1
    exact absurd h1 (fKeys_ok i Γ e)
  · cases h
theorem pf_dcK (o : On X C k) (cm : X.calm = true) (i : Nat) {x : Str} {p2 : Pos} (hpl : C.plain i = true) (hN : X.N[i]? = some x) (ok : BlkOk X.N X.env.scope scope own) (hw : WpG (own.map (·.2)) g) (hfl : (own.map (·.2)).all C.plain = true)
    (hg : ∀ s H c cl fp, PTg (X.blk s H scope (cEnv X scope cl c) fp) C tg g b) (ht : ∀ s H c cl fp, PTf (X.blk s H scope (cEnv X scope cl c) fp) C WF ifs tt ft) (hk : ∀ s H c cl fp, PP (X.blk s H scope (cEnv X scope cl c) fp) C WF .st kx tk fk) (he : ∀ s H c cl fp, PP (X.blk s H scope (cEnv X scope cl c) fp) C WF .st elt te f)
    (hv : Vis X.env.scope x := by first | exact Or.inl rfl | exact Or.inr (Or.inl rfl) | exact Or.inr (Or.inr rfl)) (hd : (x == ("__debug__" : Str)) = false := by decide) (hcd : (x == ("__classdict__" : Str)) = false := by decide)
    (hs : ∀ y, foldedSetIterable (.Name x p2) X.env y = pure y := by intro _; rfl) : PF X C W m (.DictComp kx elt [⟨tg, .Name x p2, ifs, 0⟩] scope pos) (fun σ H Q => tDc (iKeys (tVar i)) g tt tk te (own.map (·.2)) σ H Q ∨ tLockE (tDc (iKeys (tVar i)) g tt tk te (own.map (·.2))) σ H Q) (dcX (fKeys i) (own.map (·.2)) b ft fk f) := by
  have base : PE X (.DictComp kx elt [⟨tg, .Name x p2, ifs, 0⟩] scope pos) (tDc (iKeys (tVar i)) g tt tk te (own.map (·.2))) := pe_dc cm o.nd (pi_keys (pe_var hN hv hd hcd)) ok (fun s H c cl fp => (hg s H c cl fp).pe) (fun s H c cl fp => (ht s H c cl fp).pe) (fun s H c cl fp => (hk s H c cl fp).pe) (fun s H c cl fp => (he s H c cl fp).pe) hs
  exact ⟨pe_or base (pe_lock base), evF_lock hpl dcK_ok (ev_dcK i (hg X.s_0 X.H_0 0 [] []).ev hw (ht X.s_0 X.H_0 0 [] []).ev (hk X.s_0 X.H_0 0 [] []).ev (he X.s_0 X.H_0 0 [] []).ev (List.all_eq_true.mp hfl))⟩
end
end Z

set_option Elab.async false
set_option linter.all false
set_option maxRecDepth 100000
set_option maxHeartbeats 4000000
namespace Z
open PySem PySem.Spec PyProof.Rows L2

/-! ## for k, v in d.items(): d stays -/
def fPairs (i : Nat) : PIx := fun Γ => match Γ[i]? with
  | some (some (.dict kvs)) => if kvs ≠ [] ∧ (kvs.all fun p => isKey p.1) = true then some (.ok (pairsD kvs)) else none
  | _ => none
def forIX (i : Nat) (b : BX) (s : SX) : SX := fun Γ => match fPairs i Γ with
  | some (.ok ds) => (match forX b s ds Γ with
    | some (.nx Γ') => some (.nx Γ')
    | _ => none)
  | _ => none
theorem ps_or {X : Cx} {st : Stmt} {t u : TS} (h1 : PS X st t) (h2 : PS X st u) : PS X st (fun D σ H => t D σ H ∨ u D σ H) := ⟨fun pins s σ H D I h => h.elim (h1.run pins s σ H D I) (h2.run pins s σ H D I)⟩
section
variable {C : Cf} {H0 H H' : Hp} {Ox : List Addr} {σ σ' : L2.St} {Γ Γ' : Ga}
/-- behind what ran while a dict was locked -/
theorem EnvR.unlock (E : EnvR C H0 Ox σ Γ H) {a : Addr} {od : Obj} {u : HO} (h : H a = some u) (hu : nf u = true) (hn : a ∉ ow C.fl Ox σ Γ) (E' : EnvR C (mask (ow C.fl [] σ Γ) (upd H a (.frz od u))) Ox σ' Γ' H') : H' a = some (.frz od u) ∧ EnvR C H0 Ox σ' Γ' (upd H' a u) := by
  have hn0 : a ∉ ow C.fl [] σ Γ := fun z => hn (ow_sub a z)
  have h1 := E'.sm.1 a (.frz od u) (by rw [mask_out hn0, upd_same]) (fun ps z => by cases z)
  obtain ⟨ha, ha0⟩ := mask_some h1
  have hx : a ∉ Ox := fun z => hn (mem_ow.mpr (.inr z))
  have hw : a ∉ ow C.fl Ox σ' Γ' := fun z => by
    rcases mem_ow.mp z with ⟨j, hj, e⟩ | z
    · exact ha0 (mem_ow.mpr (.inl ⟨j, hj, e⟩))
    · exact hx z
  have rd : Rdm (mask (ow C.fl Ox σ' Γ') H') (mask (ow C.fl Ox σ' Γ') (upd H' a u)) := by
    rw [mask_upd_out hw]
    exact rdm_unlock (od := od) (by rw [mask_out hw]; exact ha)
  refine ⟨ha, E'.len, E.tabs, ⟨fun b o e k => ?_, fun P t => ?_⟩, fun i d hd hi => ?_, fun i d hd hi => ?_, E'.apart, fun l hl => ?_, E'.pn⟩
  · obtain ⟨e1, e2⟩ := mask_some (E.sm.1 b o e k)
    by_cases z : b = a
    · rw [z] at e1 ⊢
      rw [h] at e1
      rw [mask_out ha0, upd_same]
      exact e1
    · obtain ⟨f1, f2⟩ := mask_some (E'.sm.1 b o (by rw [mask_out e2, upd_ne z]; exact e1) k)
      rw [mask_out f2, upd_ne z]
      exact f1
  · obtain ⟨ps, e, t1⟩ := E.sm.2 P t
    obtain ⟨e1, e2⟩ := mask_some e
    have z : P ≠ a := fun z => by rw [z, h] at e1; cases e1; cases hu
    obtain ⟨qs, f1, f2⟩ := E'.sm.2 P ⟨ps, by rw [mask_out e2, upd_ne z]; exact e1, t1⟩
    obtain ⟨g1, g2⟩ := mask_some f1
    exact ⟨qs, by rw [mask_out g2, upd_ne z]; exact g1, f2⟩
  · obtain ⟨v, e1, e2⟩ := E'.val i d hd hi
    exact ⟨v, e1, e2.rdm rd⟩
  · obtain ⟨l, o, e1, e2, e3, e4⟩ := E'.own i d hd hi
    have ne : l ≠ a := fun z => hw (by rw [← z]; exact mem_ow.mpr (.inl ⟨i, hi, ow_of hd e1⟩))
    exact ⟨l, o, e1, by rw [upd_ne ne]; exact e2, e3.rdm rd, e4⟩
  · have ne : l ≠ a := fun z => hw (by rw [← z]; exact mem_ow.mpr (.inr hl))
    rw [upd_ne ne]
    exact E'.ox l hl
end
section
variable {X : Cx} {C : Cf} {W : WX} {k : Nat} {tg : Expr} {g1 : TG} {bx : BX} {body : List Stmt} {t : TS} {s : SX} {pos tpos cpos apos : Pos}
theorem evS_forZ {i : Nat} (hg : EvG C g1 bx) (hb : EvS C W t s) {Γ Γf : Ga} {H0 H : Hp} {Ox : List Addr} {σ : L2.St} (E : EnvR C H0 Ox σ Γ H) {a : Addr} {od : Obj} {ys : List (Key × V)} {kvs : Kvs} (z1 : σ[i]? = some (some (.ref a))) (z2 : H a = some (.frz od (.dK ys))) (z4 : RpK C.K (mask (ow C.fl Ox σ Γ) H) kvs ys)
    (hr : forX bx s (pairsD kvs) Γ = some (.nx Γf)) (D : Ends) (q1 : ∀ σ' H', EnvR C (mask (ow C.fl [] σ Γ) H) Ox σ' Γf H' → D.nx σ' H') : tFor (iItems (tVar i)) g1 t D σ H := by
  have hnot : a ∉ ow C.fl Ox σ Γ := fun z => by have := E.mut a z; rw [z2] at this; exact this
  have w := wlk_items (K := C.K) (Hm := mask (ow C.fl Ox σ Γ) H) (by rw [mask_out hnot]; exact z2) z4
  obtain ⟨G, Y, wk, hG, hY⟩ := w
  refine ⟨.ref a, z1, a, od, ys, rfl, z2, ?_⟩
  have sm : ∀ {σ' : L2.St} {Γ' : Ga} {H' : Hp}, EnvR C (mask (ow C.fl [] σ Γ) H) Ox σ' Γ' H' → Sm (mask (ow C.fl Ox σ Γ) H) (mask (ow C.fl Ox σ' Γ') H') := fun E' => by
    have := E'.all
    rwa [mask_two] at this
  refine for_it wk (D := D) (tb := t) (g := g1) (fun i σ' H' => ∃ Γ', forX bx s ((pairsD kvs).drop i) Γ' = some (.nx Γf) ∧ EnvR C (mask (ow C.fl [] σ Γ) H) Ox σ' Γ' H') ⟨Γ, hr, E.rebase⟩ (fun i σ' H' hi ⟨Γ', _, E'⟩ => hG H' ((sm E').trans (mask_le _ _))) (fun i x σ' H2 H3 hlt ⟨Γ', h2, E'⟩ y => ?_) fun σ' H' ⟨Γ', h2, E'⟩ => ?_
  · have hd : (pairsD kvs)[i]? = some (pairsD kvs)[i] := by simp [hlt]
    obtain ⟨s2, p2⟩ := hY i (pairsD kvs)[i] H2 x H3 hd y _ (sm E') E'.mut
    have E3 := E'.step s2
    rw [List.drop_eq_getElem_cons hlt] at h2
    unfold forX at h2
    cases h3 : bx (pairsD kvs)[i] Γ' with
    | none => rw [h3] at h2; cases h2
    | some Γ1 =>
      rw [h3] at h2
      simp only at h2
      refine hg _ Γ' Γ1 h3 _ Ox σ' H3 x E3 p2 _ fun σ2 E4 _ => ?_
      cases h4 : s Γ1 with
      | none => rw [h4] at h2; cases h2
      | some oc =>
        refine hb Γ1 oc h4 _ Ox σ2 H3 E4 _ ?_
        rw [h4] at h2
        cases oc with
        | nx Γ2 => exact fun σ5 H5 E5 => ⟨Γ2, h2, E5⟩
        | ct Γ2 => exact fun σ5 H5 E5 => ⟨Γ2, h2, E5⟩
        | bk Γ2 => cases h2; exact q1
        | rt d => cases h2
        | ex e Γ2 => cases h2
        | re d Γ2 => cases h2
  · rw [List.drop_length] at h2
    unfold forX at h2
    cases h2
    exact q1 σ' H' E'
theorem st_forI (o : On X C k) (cm : X.calm = true) (po : PassesOwn (model X.prog X.w) X.A X.env X.xe) (i : Nat) {x : Str} {p2 : Pos} {elts : List Expr} {kk : Nat} (hg : PTg X C (.Tuple elts kk tpos) g1 bx) (hb : PBk X C W body t s) (hpl : C.plain i = true := by rfl) (hN : X.N[i]? = some x := by rfl)
    (hv : Vis X.env.scope x := by first | exact Or.inl rfl | exact Or.inr (Or.inl rfl) | exact Or.inr (Or.inr rfl)) (hd : (x == ("__debug__" : Str)) = false := by decide) (hcd : (x == ("__classdict__" : Str)) = false := by decide)
    (hbase : attributeBase (.Name x p2) "items" X.env (eval (.Name x p2) X.env) = eval (.Name x p2) X.env := by rfl) (hline : (apos.endLine == cpos.line) = true := by rfl)
    (hs : ∀ y, foldedSetIterable (.Call (.Attribute (.Name x p2) "items" apos) [] [] cpos) X.env y = pure y := by intro _; rfl) :
    PSt X C W (.For (.Tuple elts kk tpos) (.Call (.Attribute (.Name x p2) "items" apos) [] [] cpos) body [] pos) (fun D σ H => tFor (iItems (tVar i)) g1 t D σ H ∨ tLock (tFor (iItems (tVar i)) g1 t) D σ H) (forIX i bx s) := by
  have base := ps_for (pos := pos) po cm (pi_items (elts := elts) (kk := kk) (tpos := tpos) (pe_var hN hv hd hcd) hbase hline) hg.pe hb.pe hs
  refine ⟨ps_or base (ps_lock base), fun Γ r hr H0 Ox σ H E D q => ?_⟩
  unfold forIX at hr
  cases h1 : fPairs i Γ with
  | none => rw [h1] at hr; cases hr
  | some r1 =>
    rw [h1] at hr
    cases r1 with
    | error x => cases hr
    | ok ds =>
      simp only at hr
      cases h2 : forX bx s ds Γ with
      | none => rw [h2] at hr; cases hr
      | some oc =>
        rw [h2] at hr
        cases oc with
        | nx Γf =>
          cases hr
          unfold fPairs at h1
          split at h1
          · rename_i kvs h0
            split at h1
            · rename_i hc
              cases h1
              obtain ⟨v, e1, e2⟩ := E.val i _ h0 (pl1 hpl)
              simp only [Rp] at e2
              obtain ⟨a, rfl, ⟨ys, r1, r2⟩ | ⟨ys, r1, r2⟩⟩ := e2
              · rcases r1 with r1 | ⟨od, r1⟩
                · obtain ⟨f1, f2⟩ := mask_some r1
                  refine .inr ⟨a, .dK ys, f1, trivial, fun od => ?_⟩
                  have E' := E.lock od f1 rfl f2
                  refine evS_forZ hg.ev hb.ev E' e1 upd_same (by rw [mask_upd_out f2]; exact RpK.rdm (rdm_lock r1 rfl) _ _ r2) h2 _ fun σ' H' E2 => ?_
                  obtain ⟨g1, g2⟩ := E.unlock f1 rfl f2 E2
                  exact ⟨g1, q σ' _ g2⟩
                · obtain ⟨f1, f2⟩ := mask_some r1
                  exact .inl (evS_forZ hg.ev hb.ev E e1 f1 r2 h2 D fun σ' H' E2 => q σ' H' (E2.base E.sm E.tabs))
              · exact absurd hc.2 (by rw [rpT_keys r2 hc.1]; decide)
            · cases h1
          · cases h1
        | bk Γ2 => cases hr
        | ct Γ2 => cases hr
        | rt d => cases hr
        | ex e Γ2 => cases hr
        | re d Γ2 => cases hr
end
end Z

set_option Elab.async false
set_option linter.all false
set_option maxRecDepth 100000
set_option maxHeartbeats 4000000
namespace Z
open PySem PySem.Spec PyProof.Rows L2

/-! ## pure helpers -/
theorem atI_nat {α : Type} {xs : List α} {i : Int} {v : α} (h0 : 0 ≤ i) (h : xs[i.toNat]? = some v) : atI xs i = some v := by
  have lt : i.toNat < xs.length := (List.getElem?_eq_some_iff.mp h).1
  unfold atI ixN
  rw [if_pos h0, if_pos (by omega)]
  exact h
theorem ixN_nat {n : Nat} {i : Int} (h0 : 0 ≤ i) (h : i < n) : ixN n i = some i.toNat := by
  unfold ixN
  rw [if_pos h0, if_pos h]
/-- a loop with an invariant, every turn ending as it should -/
theorem forX_inv {b : BX} {s : SX} (Inv : Nat → Ga → Prop) : ∀ (ds : List PyData) (j : Nat) (Γ : Ga), Inv j Γ → (∀ i d Γ, ds[i]? = some d → Inv (j + i) Γ → ∃ Γ1 Γ2, b d Γ = some Γ1 ∧ s Γ1 = some (.nx Γ2) ∧ Inv (j + i + 1) Γ2) → ∃ Γ', forX b s ds Γ = some (.nx Γ') ∧ Inv (j + ds.length) Γ'
  | [], j, Γ, h, _ => ⟨Γ, rfl, h⟩
  | d :: ds, j, Γ, h, st => by
    obtain ⟨Γ1, Γ2, h1, h2, h3⟩ := st 0 d Γ rfl h
    obtain ⟨Γ', h4, h5⟩ := forX_inv Inv ds (j + 1) Γ2 h3 fun i d Γ hd hi => by
      have e : j + 1 + i = j + (i + 1) := by omega
      rw [e] at hi
      obtain ⟨Γ3, Γ4, k1, k2, k3⟩ := st (i + 1) d Γ (by simpa using hd) hi
      exact ⟨Γ3, Γ4, k1, k2, by rw [e]; exact k3⟩
    refine ⟨Γ', ?_, by rw [List.length_cons, show j + (ds.length + 1) = j + 1 + ds.length by omega]; exact h5⟩
    rw [forX, h1]
    simp only [h2]
    exact h4
/-- over a range -/
theorem forR_inv {b : BX} {s : SX} (Inv : Nat → Ga → Prop) {n : Nat} {Γ : Ga} (h : Inv 0 Γ) (st : ∀ i Γ, i < n → Inv i Γ → ∃ Γ1 Γ2, b (.int i) Γ = some Γ1 ∧ s Γ1 = some (.nx Γ2) ∧ Inv (i + 1) Γ2) : ∃ Γ', forX b s (rgD 0 n) Γ = some (.nx Γ') ∧ Inv n Γ' := by
  obtain ⟨Γ', h1, h2⟩ := forX_inv Inv (rgD 0 n) 0 Γ h fun i d Γ hd hi => by
    have lt : i < n := by
      have := (List.getElem?_eq_some_iff.mp hd).1
      rw [rgD_len] at this
      omega
    have := rgD_get hd
    subst this
    rw [Nat.zero_add] at hi ⊢
    rw [Int.zero_add]
    exact st i Γ lt hi
  refine ⟨Γ', h1, ?_⟩
  rw [rgD_len] at h2
  have e : 0 + ((n : Int) - 0).toNat = n := by omega
  rwa [e] at h2
theorem lcL_map {α : Type} {item : PyData → Option (Option PyData)} {f : α → PyData} {g : α → PyData} {l : List α} (h : ∀ a ∈ l, item (f a) = some (some (g a))) : lcL item (l.map f) = some (l.map g) := by
  induction l with
  | nil => rfl
  | cons a l ih =>
    rw [List.map_cons, lcL, h a List.mem_cons_self]
    simp only [ih fun b hb => h b (List.mem_cons_of_mem _ hb), Option.map_some]
    rfl
theorem alL_map {α : Type} {item : PyData → Option Bool} {f : α → PyData} {g : α → Bool} {l : List α} (h : ∀ a ∈ l, item (f a) = some (g a)) : alL item (l.map f) = some (l.all g) := by
  induction l with
  | nil => rfl
  | cons a l ih =>
    rw [List.map_cons, alL, h a List.mem_cons_self, List.all_cons]
    cases g a
    · rfl
    · simp only [ih fun b hb => h b (List.mem_cons_of_mem _ hb), Bool.true_and]
theorem rgD_map {n : Nat} : rgD 0 n = (List.range n).map fun (i : Nat) => PyData.int (i : Int) := by
  unfold rgD
  simp
/-- whole numbers 0 .. n - 1 -/
abbrev rg (n : Nat) : List Int := (List.range n).map fun (i : Nat) => (i : Int)
theorem rgD_rg {n : Nat} : rgD 0 n = (rg n).map PyData.int := by
  rw [rgD_map, List.map_map]
  rfl
theorem eqvAll_ints : ∀ {a b : List Int}, PyData.eqvAll (a.map .int) (b.map .int) = decide (a = b)
  | [], [] => by simp [PyData.eqvAll]
  | [], _ :: _ => by simp [PyData.eqvAll]
  | _ :: _, [] => by simp [PyData.eqvAll]
  | x :: a, y :: b => by
    simp only [List.map_cons, PyData.eqvAll, PyData.eqv, eqvAll_ints (a := a) (b := b)]
    by_cases h : x = y <;> by_cases k : a = b <;> simp [h, k]
theorem canLay_ints : ∀ a : List Int, PyData.canLayAll0 (a.map .int) = true
  | [] => rfl
  | _ :: a => by simp only [List.map_cons, PyData.canLayAll0, PyData.canLay0, canLay_ints a, Bool.and_self]
theorem eq_lists {a b : List Int} : gEqB (.list (a.map .int)) (.list (b.map .int)) = some (decide (a = b)) := by
  have sh : ∀ a : List Int, SeqAt.shaped (.list (a.map .int)) = true := fun a => by
    unfold SeqAt.shaped
    rw [Bool.and_eq_true]
    have d0 : ∀ a : List Int, PyData.depthAll (a.map .int) = 0 := fun a => by
      induction a with
      | nil => rfl
      | cons x a ih => simp only [List.map_cons, PyData.depthAll, PyData.depth, ih, Nat.max_self]
    exact ⟨by simp only [PyData.canLay0, canLay_ints], by simp only [PyData.depth, d0]; decide⟩
  unfold gEqB
  simp only [sh, Bool.and_self, if_true, PyData.eqv, eqvAll_ints]

/-! ### what the functions give, step by step -/
section
variable {f g h : PX} {s t u : SX} {Γ Γ' : Ga} {i : Nat} {c c' : PTx} {pa : PAx} {r : Option Oc} {d e z : PyData} {ds : List PyData} {b : Bool} {er : Er} {rr : Option Res} {n N : Nat}
theorem rv_seq (h1 : s Γ = some (.nx Γ')) (h2 : t Γ' = r) : seqX s t Γ = r := by unfold seqX; rw [h1]; exact h2
theorem rv_seqR (h1 : s Γ = some (.rt d)) : seqX s t Γ = some (.rt d) := by unfold seqX; rw [h1]
theorem rv_seqE (h1 : s Γ = some (.ex er Γ')) : seqX s t Γ = some (.ex er Γ') := by unfold seqX; rw [h1]
theorem rv_nx : nxX Γ = some (.nx Γ) := rfl
theorem rv_if (h1 : c Γ = some (.ok b)) (h2 : b = true → s Γ = r) (h3 : b = false → t Γ = r) : ifS c s t Γ = r := by
  unfold ifS; rw [h1]
  cases b with
  | true => exact h2 rfl
  | false => exact h3 rfl
theorem rv_ifT (h1 : c Γ = some (.ok true)) (h2 : s Γ = r) : ifS c s t Γ = r := rv_if h1 (fun _ => h2) fun z => Bool.noConfusion z
theorem rv_ifF (h1 : c Γ = some (.ok false)) (h2 : t Γ = r) : ifS c s t Γ = r := rv_if h1 (fun z => Bool.noConfusion z) fun _ => h2
theorem rv_ret (h1 : f Γ = some (.ok d)) : retX f Γ = some (.rt d) := by unfold retX; rw [h1]
theorem rv_retE (h1 : f Γ = some (.error er)) : retX f Γ = some (.ex er Γ) := by unfold retX; rw [h1]
theorem rv_drop (h1 : f Γ = some (.ok d)) : dropX f Γ = some (.nx Γ) := by unfold dropX; rw [h1]
theorem rv_dropE (h1 : f Γ = some (.error er)) : dropX f Γ = some (.ex er Γ) := by unfold dropX; rw [h1]
theorem rv_ra {x : Str} (h1 : f Γ = some (.ok d)) : raX f x Γ = some (.ex (.own x) Γ) := by unfold raX; rw [h1]
theorem rv_asg {bx : BX} (h1 : f Γ = some (.ok d)) (h2 : bx d Γ = some Γ') : asgX f bx Γ = some (.nx Γ') := by unfold asgX; rw [h1]; simp only [h2, Option.map_some]
theorem rv_asgE {bx : BX} (h1 : f Γ = some (.error er)) : asgX f bx Γ = some (.ex er Γ) := by unfold asgX; rw [h1]
theorem rv_app (h0 : Γ[i]? = some (some (.list ds))) (h1 : f Γ = some (.ok d)) (h2 : ds.length < big) (h3 : Γ.set i (some (.list (ds ++ [d]))) = Γ') : appX i f Γ = some (.nx Γ') := by unfold appX; rw [h0]; simp only [h1, if_pos h2, h3]
theorem rv_set {j : Nat} {k : Int} (h1 : g Γ = some (.ok d)) (h0 : Γ[i]? = some (some (.list ds))) (h2 : f Γ = some (.ok (.int k))) (h3 : ixN ds.length k = some j) (h4 : Γ.set i (some (.list (ds.set j d))) = Γ') : setX i f g Γ = some (.nx Γ') := by unfold setX; rw [h1]; simp only [h0, h2, h3, Option.map_some, h4]
theorem rv_fV (h1 : Γ[i]? = some (some d)) : fV i Γ = some (.ok d) := by unfold fV; rw [h1]
theorem rv_fOl (h1 : Γ[i]? = some (some (.list ds))) : fO i Γ = some (.ok (.list ds)) := by unfold fO fV; rw [h1]
theorem rv_fC : fC d Γ = some (.ok d) := rfl
theorem rv_b1 {k : PyData → Option PyData} (h1 : f Γ = some (.ok d)) (h2 : k d = some z) : b1 f k Γ = some (.ok z) := by unfold b1; rw [h1]; simp only [h2, Option.map_some]
theorem rv_b2 {k : PyData → PyData → Option PyData} (h1 : f Γ = some (.ok d)) (h2 : g Γ = some (.ok e)) (h3 : k d e = some z) : b2 f g k Γ = some (.ok z) := by unfold b2; rw [h1]; simp only [h2, h3, Option.map_some]
theorem rv_b2s {k : Str → PyData → Option PyData} {a : Str} (h1 : f Γ = some (.ok (.str a))) (h2 : g Γ = some (.ok e)) (h3 : k a e = some z) : b2s f g k Γ = some (.ok z) := by unfold b2s; rw [h1]; simp only [h2, h3, Option.map_some]
theorem rv_c1 {k : List PyData → Option PyData} (h1 : pa Γ = some (.ok ds)) (h2 : k ds = some z) : c1 pa k Γ = some (.ok z) := by unfold c1; rw [h1]; simp only [h2, Option.map_some]
theorem rv_nil : aNil Γ = some (.ok []) := rfl
theorem rv_cons (h1 : f Γ = some (.ok d)) (h2 : pa Γ = some (.ok ds)) : aCons f pa Γ = some (.ok (d :: ds)) := by unfold aCons; rw [h1]; simp only [h2]
theorem rv_callX {F : FX} (h1 : pa Γ = some (.ok ds)) (h2 : F ds = rr) : callX pa F Γ = rr := by unfold callX; rw [h1]; exact h2
theorem rv_toT (h1 : f Γ = some (.ok (.bool b))) : toT f Γ = some (.ok b) := by unfold toT; rw [h1]
theorem rv_toTE (h1 : f Γ = some (.error er)) : toT f Γ = some (.error er) := by unfold toT; rw [h1]
theorem rv_not (h1 : c Γ = some (.ok b)) : notT c Γ = some (.ok (!b)) := by unfold notT; rw [h1]
theorem rv_and {b' : Bool} (h1 : c Γ = some (.ok b)) (h2 : b = true → c' Γ = some (.ok b')) : andT c c' Γ = some (.ok (b && b')) := by
  unfold andT; rw [h1]
  cases b with
  | true => simp only [h2 rfl, Bool.true_and]
  | false => rfl
theorem rv_or {b' : Bool} (h1 : c Γ = some (.ok b)) (h2 : b = false → c' Γ = some (.ok b')) : orT c c' Γ = some (.ok (b || b')) := by
  unfold orT; rw [h1]
  cases b with
  | false => simp only [h2 rfl, Bool.false_or]
  | true => rfl
theorem rv_andX {b' : Bool} (h1 : f Γ = some (.ok (.bool b))) (h2 : b = true → g Γ = some (.ok (.bool b'))) : andX f g Γ = some (.ok (.bool (b && b'))) := by
  unfold andX; rw [h1]
  cases b with
  | true => simp only [h2 rfl, Bool.true_and]
  | false => rfl
theorem rv_ifX {rx : Option Res} (h1 : c Γ = some (.ok b)) (h2 : b = true → f Γ = rx) (h3 : b = false → g Γ = rx) : ifX c f g Γ = rx := by
  unfold ifX; rw [h1]
  cases b with
  | true => exact h2 rfl
  | false => exact h3 rfl
theorem rv_chain {k k' : PyData → PyData → Option PyData} {b' : Bool} {x y w : PyData} (h1 : f Γ = some (.ok x)) (h2 : g Γ = some (.ok y)) (h3 : k x y = some (.bool b)) (h4 : b = true → h Γ = some (.ok w)) (h5 : b = true → k' y w = some (.bool b')) : chainX f g h k k' Γ = some (.ok (.bool (b && b'))) := by
  unfold chainX; rw [h1]; simp only [h2, h3]
  cases b with
  | true => simp only [h4 rfl, h5 rfl, Option.map_some, Bool.true_and]
  | false => rfl
theorem rv_for {ii : PIx} {bx : BX} (h1 : ii Γ = some (.ok ds)) (h2 : forX bx s ds Γ = r) : forS ii bx s Γ = r := by unfold forS; rw [h1]; exact h2
theorem rv_iR1 {k : Int} (h1 : f Γ = some (.ok (.int k))) (h2 : rgB k) : iR1 f Γ = some (.ok (rgD 0 k)) := by unfold iR1; rw [h1]; simp only [if_pos h2]
theorem rv_iA (h1 : f Γ = some (.ok d)) (h2 : itD d = some ds) : iA f Γ = some (.ok ds) := by unfold iA; rw [h1]; simp only [h2, Option.map_some]
theorem rv_oNone : oNone Γ = some (.ok none) := rfl
theorem rv_oSome {k : Int} (h1 : f Γ = some (.ok (.int k))) : oSome f Γ = some (.ok (some k)) := by unfold oSome; rw [h1]
theorem rv_s3 {l l' : POx} {k : PyData → Option Int → Option Int → Option PyData} {lo hi : Option Int} (h1 : f Γ = some (.ok d)) (h2 : l Γ = some (.ok lo)) (h3 : l' Γ = some (.ok hi)) (h4 : k d lo hi = some z) : s3 f l l' k Γ = some (.ok z) := by unfold s3; rw [h1]; simp only [h2, h3, h4, Option.map_some]
theorem rv_lc {ii : PIx} {vs : List Nat} {bx : BX} {ys : List PyData} (h1 : ii Γ = some (.ok ds)) (h2 : ds.length ≤ big) (h3 : lcL (lcI vs bx c f Γ) ds = some ys) : lcX ii vs bx c f Γ = some (.ok (.list ys)) := by unfold lcX; rw [h1]; simp only [if_pos h2, h3, Option.map_some]
theorem rv_al {ii : PIx} {vs : List Nat} {bx : BX} (h1 : ii Γ = some (.ok ds)) (h3 : alL (alI vs bx f Γ) ds = some b) : alX ii vs bx f Γ = some (.ok (.bool b)) := by unfold alX; rw [h1]; simp only [h3, Option.map_some]
theorem rv_lcI {vs : List Nat} {bx : BX} (h1 : bx d (wipeG Γ vs) = some Γ') (h2 : f Γ' = some (.ok z)) : lcI vs bx fYes f Γ d = some (some z) := by unfold lcI; simp only [h1, fYes, h2]
theorem rv_alI {vs : List Nat} {bx : BX} (h1 : bx d (wipeG Γ vs) = some Γ') (h2 : f Γ' = some (.ok (.bool b))) : alI vs bx f Γ d = some b := by unfold alI; simp only [h1, h2]
theorem rv_def {G : Ga} (hl : ds.length = n) (hG : ds.map some ++ List.replicate (N - n) none = G) (h1 : s G = some (.rt d)) : defX n N s ds = some (.ok d) := by unfold defX; rw [if_pos hl, hG, h1]
theorem rv_defN {G : Ga} (hl : ds.length = n) (hG : ds.map some ++ List.replicate (N - n) none = G) (h1 : s G = some (.nx Γ')) : defX n N s ds = some (.ok .none) := by unfold defX; rw [if_pos hl, hG, h1]
theorem rv_defE {G : Ga} (hl : ds.length = n) (hG : ds.map some ++ List.replicate (N - n) none = G) (h1 : s G = some (.ex er Γ')) : defX n N s ds = some (.error er) := by unfold defX; rw [if_pos hl, hG, h1]
end
/-! ### values -/
section
variable {i j : Int} {ds es : List PyData} {a b c d e : PyData}
theorem gv_add : gAdd (.int i) (.int j) = some (.int (i + j)) := rfl
theorem gv_sub : Z.gSub (.int i) (.int j) = some (.int (i - j)) := rfl
theorem gv_mul (h : okMul i j) : gMul (.int i) (.int j) = some (.int (i * j)) := if_pos h
theorem gv_mulR (h1 : -1000000000 < j) (h2 : j < 1000000000) : gMul (.int i) (.int j) = some (.int (i * j)) := gv_mul (.inr ⟨by omega, by omega⟩)
theorem gv_mod (h : 0 < j) : gMod (.int i) (.int j) = some (.int (i % j)) := by unfold gMod gI; exact if_pos h
theorem gv_div (h : 0 < j ∧ j < 1073741824) : gDiv (.int i) (.int j) = some (.int (i / j)) := by unfold gDiv gI; exact if_pos h
theorem gv_p12 : gPow (.int 10) (.int 12) = some (.int 1000000000000) := by unfold gPow gI okPow; simp
theorem gv_lt : gLtI (.int i) (.int j) = some (.bool (decide (i < j))) := rfl
theorem gv_le : gLeI (.int i) (.int j) = some (.bool (decide (i ≤ j))) := rfl
theorem gv_gt : gGtI (.int i) (.int j) = some (.bool (decide (j < i))) := rfl
theorem gv_ge : gGeI (.int i) (.int j) = some (.bool (decide (j ≤ i))) := rfl
theorem gv_eq : gEq (.int i) (.int j) = some (.bool (decide (i = j))) := rfl
theorem gv_ne : gNe (.int i) (.int j) = some (.bool (!decide (i = j))) := rfl
theorem gv_int : gInt (.int i) = some (.int i) := rfl
theorem gv_neg : gNeg (.int i) = some (.int (-i)) := rfl
theorem gv_lenL : gLen (.list ds) = some (.int ds.length) := rfl
theorem gv_lenT : gLen (.tuple ds) = some (.int ds.length) := rfl
theorem gv_ixL (h0 : 0 ≤ i) (h : ds[i.toNat]? = some d) : gIx (.list ds) (.int i) = some d := atI_nat h0 h
theorem gv_ixT (h0 : 0 ≤ i) (h : ds[i.toNat]? = some d) : gIx (.tuple ds) (.int i) = some d := atI_nat h0 h
theorem gv_tupL : gTupO (.list ds) = some (.tuple ds) := rfl
theorem gv_tupT : gTupO (.tuple ds) = some (.tuple ds) := rfl
theorem gv_lstT : gLstO (.tuple ds) = some (.list ds) := rfl
theorem gv_lstL : gLstO (.list ds) = some (.list ds) := rfl
theorem gv_L0 : gLstD [] = some (.list []) := rfl
theorem gv_L1 : gLstD [a] = some (.list [a]) := by unfold gLstD; rw [if_pos (by simp [big])]
theorem gv_L5 : gLstD [a, b, c, d, e] = some (.list [a, b, c, d, e]) := by unfold gLstD; rw [if_pos (by simp [big])]
theorem gv_T0 : gTupD [] = some (.tuple []) := rfl
theorem gv_T1 : gTupD [a] = some (.tuple [a]) := by unfold gTupD; rw [if_pos (by simp [big])]
theorem gv_T2 : gTupD [a, b] = some (.tuple [a, b]) := by unfold gTupD; rw [if_pos (by simp [big])]
theorem gv_rg (h : rgOk 0 i) : gRg1L (.int i) = some (.list (rgD 0 i)) := if_pos h
theorem gv_catL (h : ds.length + es.length ≤ big) : gAddF (.list ds) (.list es) = some (.list (ds ++ es)) := if_pos h
theorem gv_addL (h : ds.length + es.length ≤ big) : gAdd (.list ds) (.list es) = some (.list (ds ++ es)) := if_pos h
theorem gv_slL {lo hi : Option Int} : gSl (.list ds) lo hi = some (.list (cutD ds lo hi)) := rfl
theorem gv_slLF {lo hi : Option Int} : gSlL (.list ds) lo hi = some (.list (cutD ds lo hi)) := rfl
theorem gv_inRg : gInRg (.int i) (.int j) = some (.bool (decide (0 ≤ i ∧ i < j))) := rfl
theorem gv_sort {ns : List Int} (h : ints? ds = some ns) : gSortI (.list ds) = some (.list ((isort ns).map .int)) := by show (ints? ds).map _ = _; rw [h]; rfl
theorem gv_eqB {x y : PyData} {q : Bool} (h : gEqB x y = some q) : gEq x y = some (.bool q) := by unfold gEq; rw [h]; rfl
theorem gv_neB {x y : PyData} {q : Bool} (h : gEqB x y = some q) : gNe x y = some (.bool (!q)) := by unfold gNe; rw [h]; rfl
end
theorem sIx_none {n d : Nat} : HT.sIx n d none = d := rfl
theorem sIx_some {n d : Nat} {i : Int} (h0 : 0 ≤ i) (h1 : i ≤ n) : HT.sIx n d (some i) = i.toNat := by
  unfold HT.sIx
  simp only [show ¬ i < 0 by omega, if_false]
  omega
theorem cut_to {α : Type} {xs : List α} {i : Int} (h0 : 0 ≤ i) (h1 : i ≤ xs.length) : cutD xs none (some i) = xs.take i.toNat := by
  unfold cutD
  rw [sIx_none, sIx_some h0 h1, List.drop_zero, Nat.sub_zero]
theorem cut_from {α : Type} {xs : List α} {i : Int} (h0 : 0 ≤ i) (h1 : i ≤ xs.length) : cutD xs (some i) none = xs.drop i.toNat := by
  unfold cutD
  rw [sIx_none, sIx_some h0 h1, List.take_of_length_le (by rw [List.length_drop]; exact Nat.le_refl _)]
end Z

set_option Elab.async false
set_option linter.all false
set_option maxRecDepth 100000
set_option maxHeartbeats 4000000
namespace Z
open PySem PySem.Spec PyProof.Rows L2
section
variable {f g h : PX} {s t u : SX} {Γ Γ' : Ga} {i j : Nat} {c c' : PTx} {pa : PAx} {r : Option Oc} {d e z : PyData} {ds : List PyData} {b : Bool} {er : Er} {rr : Option Res} {n N : Nat} {bx : BX}
theorem rv_seq_asg (h1 : f Γ = some (.ok d)) (h2 : bx d Γ = some Γ') (h3 : t Γ' = r) : seqX (asgX f bx) t Γ = r := rv_seq (rv_asg h1 h2) h3
theorem rv_seq_asgE (h1 : f Γ = some (.error er)) : seqX (asgX f bx) t Γ = some (.ex er Γ) := rv_seqE (rv_asgE h1)
theorem rv_seq_drop (h1 : f Γ = some (.ok d)) (h3 : t Γ = r) : seqX (dropX f) t Γ = r := rv_seq (rv_drop h1) h3
theorem rv_seq_dropE (h1 : f Γ = some (.error er)) : seqX (dropX f) t Γ = some (.ex er Γ) := rv_seqE (rv_dropE h1)
theorem rv_seq_nxX (h3 : t Γ = r) : seqX nxX t Γ = r := rv_seq rv_nx h3
theorem rv_seq_seq (h3 : seqX s (seqX t u) Γ = r) : seqX (seqX s t) u Γ = r := by
  rw [← h3]
  unfold seqX
  cases s Γ with
  | none => rfl
  | some o => cases o <;> rfl
theorem rv_seq_ret (h1 : f Γ = some (.ok d)) : seqX (retX f) t Γ = some (.rt d) := rv_seqR (rv_ret h1)
theorem rv_seq_retE (h1 : f Γ = some (.error er)) : seqX (retX f) t Γ = some (.ex er Γ) := rv_seqE (rv_retE h1)
theorem rv_seq_ra {x : Str} (h1 : f Γ = some (.ok d)) : seqX (raX f x) t Γ = some (.ex (.own x) Γ) := rv_seqE (rv_ra h1)
theorem rv_seq_app (h0 : Γ[i]? = some (some (.list ds))) (h1 : f Γ = some (.ok d)) (h2 : ds.length < big) (h3 : Γ.set i (some (.list (ds ++ [d]))) = Γ') (h4 : t Γ' = r) : seqX (appX i f) t Γ = r := rv_seq (rv_app h0 h1 h2 h3) h4
theorem rv_seq_set {j : Nat} {k : Int} (h1 : g Γ = some (.ok d)) (h0 : Γ[i]? = some (some (.list ds))) (h2 : f Γ = some (.ok (.int k))) (h3 : ixN ds.length k = some j) (h4 : Γ.set i (some (.list (ds.set j d))) = Γ') (h5 : t Γ' = r) : seqX (setX i f g) t Γ = r := rv_seq (rv_set h1 h0 h2 h3 h4) h5
theorem rv_seq_if (h1 : c Γ = some (.ok b)) (h2 : b = true → seqX s u Γ = r) (h3 : b = false → seqX t u Γ = r) : seqX (ifS c s t) u Γ = r := by
  unfold seqX ifS at *
  rw [h1]
  cases b with
  | true => exact h2 rfl
  | false => exact h3 rfl
theorem rv_seq_ifT (h1 : c Γ = some (.ok true)) (h2 : seqX s u Γ = r) : seqX (ifS c s t) u Γ = r := rv_seq_if h1 (fun _ => h2) fun z => Bool.noConfusion z
theorem rv_seq_ifF (h1 : c Γ = some (.ok false)) (h2 : seqX t u Γ = r) : seqX (ifS c s t) u Γ = r := rv_seq_if h1 (fun z => Bool.noConfusion z) fun _ => h2
theorem rv_seq_for {ii : PIx} (h1 : ii Γ = some (.ok ds)) (h2 : forX bx s ds Γ = some (.nx Γ')) (h3 : t Γ' = r) : seqX (forS ii bx s) t Γ = r := rv_seq (rv_for h1 h2) h3
theorem bx_nm (h : some (Γ.set i (some d)) = some Γ') : bNm i d Γ = some Γ' := h
theorem bx_nmF (h : bNmF i d Γ = some Γ') : bNmF i d Γ = some Γ' := h
theorem bx_tup {b : BXs} (h : bTup n b d Γ = some Γ') : bTup n b d Γ = some Γ' := h
theorem nx_is (h : some (.nx Γ) = r) : nxX Γ = r := h
theorem slot_is {o : Option PyData} (h : Γ[i]? = some o) : Γ[i]? = some o := h
theorem set_is {o : Option PyData} (h : Γ.set i o = Γ') : Γ.set i o = Γ' := h
/-- the value of a test, as it stands -/
theorem rv_is {x y : PTx} {b b' : Bool} (h : x Γ = some (.ok b)) (e : b = b') : x Γ = some (.ok b') := by rw [h, e]
theorem rv_isX {x : PX} {d d' : PyData} (h : x Γ = some (.ok d)) (e : d = d') : x Γ = some (.ok d') := by rw [h, e]
theorem gv_addIs {i j m : Int} (h : i + j = m) : gAdd (.int i) (.int j) = some (.int m) := by rw [← h]; rfl
theorem gv_modIs {i j m : Int} (h0 : 0 < j) (h : i % j = m) : gMod (.int i) (.int j) = some (.int m) := by rw [← h]; exact gv_mod h0
theorem gv_ninRg {i j : Int} : gNinRg (.int i) (.int j) = some (.bool (!decide (0 ≤ i ∧ i < j))) := rfl
theorem gv_eqSS {a b : Str} : gEq (.str a) (.str b) = some (.bool (decide (a = b))) := rfl
theorem gv_neSS {a b : Str} : gNe (.str a) (.str b) = some (.bool (!decide (a = b))) := rfl
theorem gv_ix0 {a : PyData} {ds : List PyData} : gIx (.tuple (a :: ds)) (.int 0) = some a := gv_ixT (by omega) rfl
theorem gv_ix1 {a b : PyData} {ds : List PyData} : gIx (.tuple (a :: b :: ds)) (.int 1) = some b := gv_ixT (by omega) rfl
end
/-- a loop over what stands for a list -/
theorem forX_cons {bx : BX} {s : SX} {d : PyData} {ds : List PyData} {Γ Γ1 Γ2 : Ga} {r : Option Oc} (h1 : bx d Γ = some Γ1) (h2 : s Γ1 = some (.nx Γ2)) (h3 : forX bx s ds Γ2 = r) : forX bx s (d :: ds) Γ = r := by
  rw [forX, h1]
  simp only [h2, h3]
theorem forX_consR {bx : BX} {s : SX} {d e : PyData} {ds : List PyData} {Γ Γ1 : Ga} (h1 : bx d Γ = some Γ1) (h2 : s Γ1 = some (.rt e)) : forX bx s (d :: ds) Γ = some (.rt e) := by
  rw [forX, h1]
  simp only [h2]
theorem forX_nil {bx : BX} {s : SX} {Γ : Ga} : forX bx s [] Γ = some (.nx Γ) := rfl
end Z

set_option Elab.async false
set_option linter.all false
set_option maxRecDepth 100000
set_option maxHeartbeats 4000000
namespace M
open PySem PySem.Spec PyProof.Rows L2 Z
theorem rgD_int {k : Int} : rgD 0 k = (rg k.toNat).map PyData.int := by
  unfold rgD rg
  rw [Int.sub_zero, List.map_map]
  refine List.map_congr_left fun i _ => ?_
  show PyData.int (0 + (i : Int)) = PyData.int i
  rw [Int.zero_add]
theorem gv_all {ds : List PyData} {bs : List Bool} (h : bools? ds = some bs) : gAllL (.list ds) = some (.bool (bs.all id)) := by show (bools? ds).map _ = _; rw [h]; rfl
theorem rv_try {i : Nat} {body : SX} {l : List (Str × Bool)} {su : Er → SX} {Γ Γ' : Ga} {e : Er} {d : PyData} (h1 : body Γ = some (.ex e Γ')) (h2 : l.lookup e.cls = some true) (h3 : i < Γ'.length) (h4 : su e (Γ'.set i none) = some (.rt d)) : tryX i body l su Γ = some (.rt d) := by
  unfold tryX
  simp only [h1, h2, if_pos h3, h4]
theorem rv_tryR {i : Nat} {body : SX} {l : List (Str × Bool)} {su : Er → SX} {Γ : Ga} {d : PyData} (h1 : body Γ = some (.rt d)) : tryX i body l su Γ = some (.rt d) := by
  unfold tryX
  simp only [h1]
theorem app_cps (a b : Str) : (a ++ b).cps.toList = a.cps.toList ++ b.cps.toList := by
  show (a.cps ++ b.cps).toList = _
  simp
theorem join_cps : ∀ l : List Nat, (Str.join "" (l.map fun c => (⟨#[c]⟩ : Str))).cps.toList = l
  | [] => rfl
  | [c] => rfl
  | c :: d :: l => by
    have ih := join_cps (d :: l)
    rw [List.map_cons] at ih
    show (((⟨#[c]⟩ : Str) ++ ("" : Str)) ++ Str.join "" ((⟨#[d]⟩ : Str) :: l.map fun c => (⟨#[c]⟩ : Str))).cps.toList = _
    rw [app_cps, ih, app_cps]
    rfl
theorem strs_one : ∀ l : List Nat, Z.strs? (l.map fun c => PyData.str ⟨#[c]⟩) = some (l.map fun c => (⟨#[c]⟩ : Str)) := fun l => by
  have : (l.map fun c => PyData.str ⟨#[c]⟩) = (l.map fun c => (⟨#[c]⟩ : Str)).map PyData.str := by simp
  rw [this]; exact strs_map _
theorem gv_lenS {z : Str} (h : z.length ≤ big) : gLen (.str z) = some (.int z.length) := if_pos h
theorem gv_ixS {z : Str} {i : Int} {c : Nat} (hz : z.length ≤ big) (h0 : 0 ≤ i) (h : z.cps.toList[i.toNat]? = some c) : gIx (.str z) (.int i) = some (.str ⟨#[c]⟩) := by
  show (if z.length ≤ big then (atI z.cps.toList i).map fun c => PyData.str ⟨#[c]⟩ else none) = _
  rw [if_pos hz, atI_nat h0 h]
  rfl
theorem dig (k v : Int) (hk : k = 2 ∨ k = 3 ∨ k = 4) : ∃ c ∈ ([48, 49, 50, 51] : List Nat), gIx (.str "0123") (.int (v % k)) = some (.str ⟨#[c]⟩) := by
  have h0 : 0 ≤ v % k := Int.emod_nonneg _ (by omega)
  have h1 : v % k < 4 := by have := Int.emod_lt_of_pos v (show 0 < k by omega); omega
  have : v % k = 0 ∨ v % k = 1 ∨ v % k = 2 ∨ v % k = 3 := by omega
  rcases this with e | e | e | e <;> rw [e]
  · exact ⟨48, by decide, gv_ixS (by decide) (by omega) rfl⟩
  · exact ⟨49, by decide, gv_ixS (by decide) (by omega) rfl⟩
  · exact ⟨50, by decide, gv_ixS (by decide) (by omega) rfl⟩
  · exact ⟨51, by decide, gv_ixS (by decide) (by omega) rfl⟩
theorem cutD_map {α β : Type} (f : α → β) (xs : List α) (lo hi : Option Int) : Z.cutD (xs.map f) lo hi = (Z.cutD xs lo hi).map f := by
  unfold Z.cutD
  rw [List.length_map, List.map_take, List.map_drop]
theorem cutD_len {α : Type} (xs : List α) (lo hi : Option Int) : (Z.cutD xs lo hi).length ≤ xs.length := by
  unfold Z.cutD
  rw [List.length_take, List.length_drop]
  omega
abbrev digs (cs : List Nat) : Prop := ∀ c ∈ cs, c ∈ ([48, 49, 50, 51] : List Nat)
theorem lc_digs (Γ : Ga) (k : Int) (hk : k = 2 ∨ k = 3 ∨ k = 4) (item : PyData → Option (Option PyData)) (hi : ∀ (v : Int) (z : PyData), gIx (.str "0123") (.int (v % k)) = some z → item (.int v) = some (some z)) : ∀ l : List Int, ∃ cs : List Nat, lcL item (l.map .int) = some (cs.map fun c => .str ⟨#[c]⟩) ∧ cs.length = l.length ∧ digs cs
  | [] => ⟨[], rfl, rfl, fun c hc => by cases hc⟩
  | v :: l => by
    obtain ⟨cs, h1, h2, h3⟩ := lc_digs Γ k hk item hi l
    obtain ⟨c, hc, h4⟩ := dig k v hk
    refine ⟨c :: cs, ?_, by simp [h2], fun d hd => ?_⟩
    · rw [List.map_cons, lcL, hi v _ h4]
      simp only [h1, Option.map_some]
      rfl
    · rcases List.mem_cons.mp hd with e | e
      · rw [e]; exact hc
      · exact h3 d e
theorem gv_ixN {ds : List PyData} {d : PyData} {i : Int} {j : Nat} (h : i = j) (hd : ds[j]? = some d) : gIx (.list ds) (.int i) = some d := gv_ixL (by omega) (by rw [h]; exact hd)
theorem gv_ixTN {ds : List PyData} {d : PyData} {i : Int} {j : Nat} (h : i = j) (hd : ds[j]? = some d) : gIx (.tuple ds) (.int i) = some d := gv_ixT (by omega) (by rw [h]; exact hd)
theorem int_at {l : List Int} {i : Nat} (h : i < l.length) : (l.map PyData.int)[i]? = some (.int l[i]) := by simp [h]
theorem rg_sorted (n : Nat) : (rg n).Pairwise (· ≤ ·) := by
  unfold rg
  rw [List.pairwise_map]
  exact List.pairwise_lt_range.imp fun h => by omega
theorem isort_rg {k : Nat} {o : List Int} (h : o.Perm (rg k)) : isort o = rg k := (isort_unique h.symm (rg_sorted k)).symm
theorem gv_neS {s : Str} : gNe (.str s) (.str s) = some (.bool false) := by
  show some (PyData.bool (!decide (s = s))) = _
  simp
theorem gv_eqS {s : Str} : gEq (.str s) (.str s) = some (.bool true) := by
  show some (PyData.bool (decide (s = s))) = _
  simp
theorem gv_slS {z : Str} {lo hi : Option Int} (h : z.length ≤ big) : gSl (.str z) lo hi = some (.str (cutS z lo hi)) := if_pos h
theorem gv_addS {a b : Str} (h : a.length + b.length ≤ big) : gAdd (.str a) (.str b) = some (.str (a ++ b)) := if_pos h
abbrev Rows := List (List (Int × Int))
def tx (ds : List Nat) : Str := ⟨(ds.map (48 + ·)).toArray⟩
def dch (d : Nat) : Str := ⟨#[48 + d]⟩
abbrev chD (d : Nat) : PyData := .str (dch d)
theorem tx_cps (ds : List Nat) : (tx ds).cps.toList = ds.map (48 + ·) := by simp [tx]
theorem tx_len (ds : List Nat) : (tx ds).length = ds.length := by
  show (tx ds).cps.size = _
  rw [← Array.length_toList, tx_cps, List.length_map]
theorem tx_inj {a b : List Nat} (h : tx a = tx b) : a = b := by
  have h := congrArg (fun z : Str => z.cps.toList) h
  simp only [tx_cps] at h
  exact List.map_inj_right (fun x y h => by omega) |>.mp h
theorem tx_signs (ds : List Nat) : Z.signs (tx ds) = ds.map chD := by
  unfold Z.signs
  rw [tx_cps, List.map_map]
  rfl
theorem tx_app (a b : List Nat) : tx a ++ tx b = tx (a ++ b) := by
  apply str_eq
  rw [app_cps, tx_cps, tx_cps, tx_cps, List.map_append]
theorem tx_nil : tx [] = "" := rfl
theorem join_tx (ds : List Nat) : Txt.join "" (ds.map dch) = tx ds := by
  apply str_eq
  rw [TL.join_eq, tx_cps]
  have := join_cps (ds.map (48 + ·))
  rw [List.map_map] at this
  exact this
theorem strs_ch : ∀ ds : List Nat, Z.strs? (ds.map chD) = some (ds.map dch) := fun ds => by
  have : ds.map chD = (ds.map dch).map PyData.str := by rw [List.map_map]; rfl
  rw [this]; exact strs_map _
theorem gv_joinT {ds : List Nat} (h : ds.length ≤ big) : gJoin "" (.list (ds.map chD)) = some (.str (tx ds)) := by
  show (Z.strs? (ds.map chD)).bind (gJoinS "") = _
  rw [strs_ch]
  show gJoinS "" _ = _
  unfold gJoinS
  have e : ((ds.map dch).map (·.length)).sum = ds.length := by
    rw [List.map_map]
    have : ((fun x : Str => x.length) ∘ dch) = fun _ => 1 := rfl
    rw [this]
    clear h this
    induction ds with
    | nil => rfl
    | cons c cs ih => rw [List.map_cons, List.sum_cons, ih, List.length_cons]; omega
  rw [e, if_pos (by rw [List.length_map]; show ds.length + ds.length * 0 ≤ big; omega), join_tx]
theorem ten {P : Nat → Prop} (h0 : P 0) (h1 : P 1) (h2 : P 2) (h3 : P 3) (h4 : P 4) (h5 : P 5) (h6 : P 6) (h7 : P 7) (h8 : P 8) (h9 : P 9) (d : Nat) (h : d < 10) : P d := by
  rcases (by omega : d = 0 ∨ d = 1 ∨ d = 2 ∨ d = 3 ∨ d = 4 ∨ d = 5 ∨ d = 6 ∨ d = 7 ∨ d = 8 ∨ d = 9) with rfl | rfl | rfl | rfl | rfl | rfl | rfl | rfl | rfl | rfl <;> assumption
theorem int_ch : ∀ d : Nat, d < 10 → PySem.intText? (dch d) = some (d : Int) := by decide +kernel
theorem gv_intC (d : Nat) (h : d < 10) : gInt (chD d) = some (.int (d : Int)) := by
  show (if (dch d).length ≤ 640 then (PySem.intText? (dch d)).map PyData.int else none) = _
  rw [int_ch d h, if_pos (show (dch d).length ≤ 640 from (by decide : 1 ≤ 640))]
  rfl
theorem gv_dig10 (d : Nat) (h : d < 10) : gIx (.str "0123456789") (.int (d : Int)) = some (chD d) := ten (P := fun d => gIx (.str "0123456789") (.int (d : Int)) = some (chD d)) rfl rfl rfl rfl rfl rfl rfl rfl rfl rfl d h
theorem gv_dig4 (d : Nat) (h : d < 4) : gIx (.str "0123") (.int (d : Int)) = some (chD d) := by
  rcases (by omega : d = 0 ∨ d = 1 ∨ d = 2 ∨ d = 3) with rfl | rfl | rfl | rfl <;> rfl
theorem gv_addC {w : List Nat} {d : Nat} (h : w.length ≤ 1000) : gAdd (.str (tx w)) (chD d) = some (.str (tx (w ++ [d]))) := by
  rw [gv_addS (by rw [tx_len]; show w.length + 1 ≤ big; unfold big; omega), ← tx_app]
  rfl
theorem rv_tryM {Γ : Ga} {body : SX} {hs : List (List (Str × Bool) × SX)} {d : PyData} (h : body Γ = some (.rt d)) : tryM body hs Γ = some (.rt d) := by
  unfold tryM
  simp only [h]
theorem rv_tryE {Γ Γ' : Ga} {body : SX} {hs : List (List (Str × Bool) × SX)} {e : Er} {su : SX} {d : PyData} (h : body Γ = some (.ex e Γ')) (h2 : pickH hs e = some (some su)) (h3 : su Γ' = some (.rt d)) : tryM body hs Γ = some (.rt d) := by
  unfold tryM
  simp only [h, h2, h3]
theorem rv_lcIc {Γ Γ' : Ga} {d z : PyData} {vs : List Nat} {bx : BX} {c : PTx} {f : PX} {b : Bool} (h1 : bx d (wipeG Γ vs) = some Γ') (h2 : c Γ' = some (.ok b)) (h3 : f Γ' = some (.ok z)) : lcI vs bx c f Γ d = some (if b then some z else none) := by
  unfold lcI
  rw [h1]
  simp only [h2]
  cases b
  · rfl
  · simp only [h3, if_true]
theorem lcL_filter {α : Type} {item : PyData → Option (Option PyData)} {f : α → PyData} {g : α → PyData} {p : α → Bool} : ∀ {l : List α}, (∀ a ∈ l, item (f a) = some (if p a then some (g a) else none)) → lcL item (l.map f) = some ((l.filter p).map g)
  | [], _ => rfl
  | a :: l, h => by
    have ih := lcL_filter (l := l) fun b hb => h b (List.mem_cons_of_mem _ hb)
    rw [List.map_cons, lcL, h a List.mem_cons_self, List.filter_cons]
    cases p a
    · simp only [Bool.false_eq_true, if_false]; exact ih
    · simp only [if_true, ih, Option.map_some]; rfl
end M

set_option Elab.async false
set_option linter.all false
set_option maxRecDepth 100000
set_option maxHeartbeats 4000000
namespace D
open PySem PySem.Spec PyProof.Rows L2 Z

def top (i : Nat) : Stmt := PySem.Challenge.pw_leafturner_k69_graphs_of_levels.main.body.getD i (.Pass ⟨0, 0, 0, 0⟩)
def l_m_BadNumber : List (Str × Bool) := [("BadNumber", true), ("LeafError", false), ("NotMachine", false), ("NotString", false), ("NotWord", false), ("TooLarge", false)]
def l_m_NotMachine : List (Str × Bool) := [("BadNumber", false), ("LeafError", false), ("NotMachine", true), ("NotString", false), ("NotWord", false), ("TooLarge", false)]
def l_m_NotString : List (Str × Bool) := [("BadNumber", false), ("LeafError", false), ("NotMachine", false), ("NotString", true), ("NotWord", false), ("TooLarge", false)]
def l_m_NotWord : List (Str × Bool) := [("BadNumber", false), ("LeafError", false), ("NotMachine", false), ("NotString", false), ("NotWord", true), ("TooLarge", false)]
def l_m_TooLarge : List (Str × Bool) := [("BadNumber", false), ("LeafError", false), ("NotMachine", false), ("NotString", false), ("NotWord", false), ("TooLarge", true)]
structure Fc (K : PySem.W.Frag) (mg : Str → Option Value) : Prop where
  b_all : mg "all" = none
  b_divmod : mg "divmod" = none
  b_enumerate : mg "enumerate" = none
  b_int : mg "int" = none
  b_len : mg "len" = none
  b_list : mg "list" = none
  b_range : mg "range" = none
  b_repr : mg "repr" = none
  b_sorted : mg "sorted" = none
  b_str : mg "str" = none
  b_tuple : mg "tuple" = none
  b_zip : mg "zip" = none
  g_DIGITS : ∃ t, mg "DIGITS" = some (.str "0123456789" t)
  g_GREATEST_LEVEL : ∃ t, mg "GREATEST_LEVEL" = some (.int 10 t)
  g_LARGE_LETTERS : ∃ t, mg "LARGE_LETTERS" = some (.str "ABCDEFGH" t)
  g_LEAST_DIGITS : ∃ t, mg "LEAST_DIGITS" = some (.int 2 t)
  g_LETTERS_IN_ORDER : ∃ t, mg "LETTERS_IN_ORDER" = some (.str "aAbBcCdDeEfFgGhH" t)
  g_LONGEST_STRING : ∃ t, mg "LONGEST_STRING" = some (.int 60 t)
  g_LONGEST_WORD : ∃ t, mg "LONGEST_WORD" = some (.int 60 t)
  g_MOST_DIGITS : ∃ t, mg "MOST_DIGITS" = some (.int 4 t)
  g_MOST_NUMBERS : ∃ t, mg "MOST_NUMBERS" = some (.int 1024 t)
  g_MOST_ROWS : ∃ t, mg "MOST_ROWS" = some (.int 6 t)
  g_MOST_STATES : ∃ t, mg "MOST_STATES" = some (.int 8 t)
  g_MOST_WIDE_STATES : ∃ t, mg "MOST_WIDE_STATES" = some (.int 200 t)
  g_SMALL_LETTERS : ∃ t, mg "SMALL_LETTERS" = some (.str "abcdefgh" t)
  x_BadNumber : ExF K mg "BadNumber"
  x_NotMachine : ExF K mg "NotMachine"
  x_NotString : ExF K mg "NotString"
  x_NotWord : ExF K mg "NotWord"
  x_TooLarge : ExF K mg "TooLarge"
  m_BadNumber : ∀ q ∈ l_m_BadNumber, PySem.W.exmOne K (cv mg q.1) (cv mg "BadNumber") = some q.2
  m_NotMachine : ∀ q ∈ l_m_NotMachine, PySem.W.exmOne K (cv mg q.1) (cv mg "NotMachine") = some q.2
  m_NotString : ∀ q ∈ l_m_NotString, PySem.W.exmOne K (cv mg q.1) (cv mg "NotString") = some q.2
  m_NotWord : ∀ q ∈ l_m_NotWord, PySem.W.exmOne K (cv mg q.1) (cv mg "NotWord") = some q.2
  m_TooLarge : ∀ q ∈ l_m_TooLarge, PySem.W.exmOne K (cv mg q.1) (cv mg "TooLarge") = some q.2

/-! ### check_count -/
def p_check_count : SX := (ifS (toT (b3 (fV 0) (fC (.int 2)) (b2 (fC (.int 4)) (fC (.int 1)) gAdd) gNinRg2)) (raX (fC (.str "there are from 2 to 4 digits")) "BadNumber") nxX)
abbrev F_check_count : FX := defX 1 1 p_check_count
theorem b_check_count {P : Program} {w : World} {base : Heap} {K : PySem.W.Frag} {mg : Str → Option Value} {Ts : List Addr} {f : Addr} {cdv : Value} (F : Fc K mg) 
    (A : Around) (outer : List Env) (s : Shared) (H : Hp) (E : XK) (hr : Room 0 (A.deeper (envOfC "check_count" (defScope (top 17)) s.heap.objs.size f cdv))) :
    ∃ t, PBk (cxOf (L2.CX P w) P w K mg base ["k"] "check_count" (defScope (top 17)) f cdv A outer s H E) (CfD ⟨K, mg, Ts⟩ []) (WD E) (defBody (top 17)) t p_check_count := by
  have o : On (cxOf (L2.CX P w) P w K mg base ["k"] "check_count" (defScope (top 17)) f cdv A outer s H E) (CfD ⟨K, mg, Ts⟩ []) 0 := .mk' rfl rfl hr (show (["k"] : List Str).Nodup by decide +kernel)
  have tk : Takes (cxOf (L2.CX P w) P w K mg base ["k"] "check_count" (defScope (top 17)) f cdv A outer s H E) (WD E) := takes_of rfl rfl rfl rfl
  have po := passes_of (X := (cxOf (L2.CX P w) P w K mg base ["k"] "check_count" (defScope (top 17)) f cdv A outer s H E)) rfl
  exact ⟨_, (pbk_one (st_if (pt_ninRg2 o rfl F.b_range (pp_var 0) (pp_gint o F.g_LEAST_DIGITS) (pp_add o (pp_gint o F.g_MOST_DIGITS) pp_int)) (pbk_one (st_raise o rfl tk F.x_BadNumber rfl pp_str)) pbk_nil))⟩

/-! ### string_count -/
def p_string_count : SX := (seqX (asgX (fC (.int 1)) (bNm 2))
  (seqX (forS (iR1 (fV 1)) (bNm 3) (augM 2 (fV 0)))
  (retX (fV 2))))
abbrev F_string_count : FX := defX 2 4 p_string_count
theorem b_string_count {P : Program} {w : World} {base : Heap} {K : PySem.W.Frag} {mg : Str → Option Value} {Ts : List Addr} {f : Addr} {cdv : Value} (F : Fc K mg) 
    (A : Around) (outer : List Env) (s : Shared) (H : Hp) (E : XK) (hr : Room 0 (A.deeper (envOfC "string_count" (defScope (top 36)) s.heap.objs.size f cdv))) :
    ∃ t, PBk (cxOf (L2.CX P w) P w K mg base ["k", "level", "count", "_"] "string_count" (defScope (top 36)) f cdv A outer s H E) (CfD ⟨K, mg, Ts⟩ []) (WD E) (defBody (top 36)) t p_string_count := by
  have o : On (cxOf (L2.CX P w) P w K mg base ["k", "level", "count", "_"] "string_count" (defScope (top 36)) f cdv A outer s H E) (CfD ⟨K, mg, Ts⟩ []) 0 := .mk' rfl rfl hr (show (["k", "level", "count", "_"] : List Str).Nodup by decide +kernel)
  have tk : Takes (cxOf (L2.CX P w) P w K mg base ["k", "level", "count", "_"] "string_count" (defScope (top 36)) f cdv A outer s H E) (WD E) := takes_of rfl rfl rfl rfl
  have po := passes_of (X := (cxOf (L2.CX P w) P w K mg base ["k", "level", "count", "_"] "string_count" (defScope (top 36)) f cdv A outer s H E)) rfl
  exact ⟨_, (pbk_cons (st_set o 2 pp_int)
      (pbk_cons (st_for o rfl po (pi_r1 o rfl F.b_range (pp_var 1)) (tg_nm o.k 3) (pbk_one (st_augM o 2 (pp_var 0))))
      (pbk_one (st_ret (pp_var 2)))))⟩

/-! ### string_at -/
def p_string_at : SX := (seqX (dropX (callX (aCons (fV 0) aNil) F_check_count))
  (seqX (ifS (orT (toT (b2 (fV 1) (b2 (fC (.int 10)) (fC (.int 1)) gAdd) gNinRg)) (toT (b2 (fV 2) (callX (aCons (fV 0) (aCons (fV 1) aNil)) F_string_count) gNinRg))) (raX (fC (.str "not a level that is told, or no such number on it")) "BadNumber") nxX)
  (seqX (asgX (c1 aNil gLstD) (bNmF 3))
  (seqX (forS (iR1 (fV 1)) (bNm 4) (seqX (asgX (b2 (fV 2) (fV 0) gDivmod) (bTup 2 (bCons (bNm 2) (bCons (bNm 5) bNil))))
  (appX 3 (b2 (fC (.str "0123456789")) (fV 5) gIx))))
  (retX (b2s (fC (.str "")) (b1 (fO 3) gRevL) gJoin))))))
abbrev F_string_at : FX := defX 3 6 p_string_at
theorem b_string_at {P : Program} {w : World} {base : Heap} {K : PySem.W.Frag} {mg : Str → Option Value} {Ts : List Addr} {f : Addr} {cdv : Value} (F : Fc K mg) (D_check_count : Df P w base ⟨K, mg, Ts⟩ "check_count" 1 1 F_check_count) (D_string_count : Df P w base ⟨K, mg, Ts⟩ "string_count" 1 2 F_string_count)
    (A : Around) (outer : List Env) (s : Shared) (H : Hp) (E : XK) (hr : Room 1 (A.deeper (envOfC "string_at" (defScope (top 49)) s.heap.objs.size f cdv))) :
    ∃ t, PBk (cxOf (L2.CX P w) P w K mg base ["k", "n", "number", "digits", "_", "x"] "string_at" (defScope (top 49)) f cdv A outer s H E) (CfD ⟨K, mg, Ts⟩ [3]) (WD E) (defBody (top 49)) t p_string_at := by
  have o : On (cxOf (L2.CX P w) P w K mg base ["k", "n", "number", "digits", "_", "x"] "string_at" (defScope (top 49)) f cdv A outer s H E) (CfD ⟨K, mg, Ts⟩ [3]) 1 := .mk' rfl rfl hr (show (["k", "n", "number", "digits", "_", "x"] : List Str).Nodup by decide +kernel)
  have tk : Takes (cxOf (L2.CX P w) P w K mg base ["k", "n", "number", "digits", "_", "x"] "string_at" (defScope (top 49)) f cdv A outer s H E) (WD E) := takes_of rfl rfl rfl rfl
  have po := passes_of (X := (cxOf (L2.CX P w) P w K mg base ["k", "n", "number", "digits", "_", "x"] "string_at" (defScope (top 49)) f cdv A outer s H E)) rfl
  exact ⟨_, (pbk_cons (st_expr (m := .rd) (pp_call D_check_count o rfl (by decide) tk rfl (par_cons (pp_var 0) par_nil)))
      (pbk_cons (st_if (PWt.tt (pwt_or (pt_ninRg1 o rfl F.b_range (pp_var 1) (pp_add o (pp_gint o F.g_GREATEST_LEVEL) pp_int)) (pwt_or1 (pt_ninRg1 o rfl F.b_range (pp_var 2) (pp_call D_string_count o rfl (by decide) tk rfl (par_cons (pp_var 0) (par_cons (pp_var 1) par_nil))))))) (pbk_one (st_raise o rfl tk F.x_BadNumber rfl pp_str)) pbk_nil)
      (pbk_cons (st_setF o 3 (pf_lst par_nil))
      (pbk_cons (st_for o rfl po (pi_r1 o rfl F.b_range (pp_var 1)) (tg_nm o.k 4) (pbk_cons (st_asg (pp_divmod o rfl F.b_divmod (pp_var 2) (pp_var 0)) (tg_tup o.k rfl (tgs_cons (tg_nm o.k 2) (tgs_cons (tg_nm o.k 5) tgs_nil))))
      (pbk_one (st_append o 3 (pp_ix o (PP.h (pp_gstr o F.g_DIGITS)) (pp_var 5))))))
      (pbk_one (st_ret (pp_join o pp_str (PP.h (PF.pp (pf_revL o (ph_own 3)))))))))))⟩

/-! ### _law_at -/
def p__law_at : SX := (tryM (retX (callX (aCons (fV 0) (aCons (fV 1) (aCons (fV 2) aNil))) F_string_at)) ((l_m_BadNumber, (retX (fC (.str "number")))) :: []))
abbrev F__law_at : FX := defX 3 3 p__law_at
theorem b__law_at {P : Program} {w : World} {base : Heap} {K : PySem.W.Frag} {mg : Str → Option Value} {Ts : List Addr} {f : Addr} {cdv : Value} (F : Fc K mg) (D_string_at : Df P w base ⟨K, mg, Ts⟩ "string_at" 2 3 F_string_at)
    (A : Around) (outer : List Env) (s : Shared) (H : Hp) (E : XK) (hr : Room 2 (A.deeper (envOfC "_law_at" (defScope (top 63)) s.heap.objs.size f cdv))) :
    ∃ t, PBk (cxOf (L2.CX P w) P w K mg base ["k", "n", "number"] "_law_at" (defScope (top 63)) f cdv A outer s H E) (CfD ⟨K, mg, Ts⟩ []) (WD E) (defBody (top 63)) t p__law_at := by
  have o : On (cxOf (L2.CX P w) P w K mg base ["k", "n", "number"] "_law_at" (defScope (top 63)) f cdv A outer s H E) (CfD ⟨K, mg, Ts⟩ []) 2 := .mk' rfl rfl hr (show (["k", "n", "number"] : List Str).Nodup by decide +kernel)
  have tk : Takes (cxOf (L2.CX P w) P w K mg base ["k", "n", "number"] "_law_at" (defScope (top 63)) f cdv A outer s H E) (WD E) := takes_of rfl rfl rfl rfl
  have po := passes_of (X := (cxOf (L2.CX P w) P w K mg base ["k", "n", "number"] "_law_at" (defScope (top 63)) f cdv A outer s H E)) rfl
  exact ⟨_, (pbk_one (st_try_many o rfl rfl tk (fun W pn xe tk po => (pbk_one (st_ret (pp_call D_string_at o.tr rfl (by decide) tk rfl (par_cons (pp_var 0) (par_cons (pp_var 1) (par_cons (pp_var 2) par_nil))))))) (.cons F.x_BadNumber rfl (by decide) F.m_BadNumber (fun a oe cls d pn hz hf => (pbk_one (st_ret pp_str))) .nil)))⟩

/-! ### _law_cell -/
def p__law_cell : SX := (seqX (ifS (toT (b2 (fV 1) (b1 (fV 0) gLen) gLtI)) (retX (b2 (fV 0) (fV 1) gIx)) nxX)
  (retX (fC (.int 0))))
abbrev F__law_cell : FX := defX 2 2 p__law_cell
theorem b__law_cell {P : Program} {w : World} {base : Heap} {K : PySem.W.Frag} {mg : Str → Option Value} {Ts : List Addr} {f : Addr} {cdv : Value} (F : Fc K mg) 
    (A : Around) (outer : List Env) (s : Shared) (H : Hp) (E : XK) (hr : Room 0 (A.deeper (envOfC "_law_cell" (defScope (top 51)) s.heap.objs.size f cdv))) :
    ∃ t, PBk (cxOf (L2.CX P w) P w K mg base ["script", "k"] "_law_cell" (defScope (top 51)) f cdv A outer s H E) (CfD ⟨K, mg, Ts⟩ []) (WD E) (defBody (top 51)) t p__law_cell := by
  have o : On (cxOf (L2.CX P w) P w K mg base ["script", "k"] "_law_cell" (defScope (top 51)) f cdv A outer s H E) (CfD ⟨K, mg, Ts⟩ []) 0 := .mk' rfl rfl hr (show (["script", "k"] : List Str).Nodup by decide +kernel)
  have tk : Takes (cxOf (L2.CX P w) P w K mg base ["script", "k"] "_law_cell" (defScope (top 51)) f cdv A outer s H E) (WD E) := takes_of rfl rfl rfl rfl
  have po := passes_of (X := (cxOf (L2.CX P w) P w K mg base ["script", "k"] "_law_cell" (defScope (top 51)) f cdv A outer s H E)) rfl
  exact ⟨_, (pbk_cons (st_if (pt_lt o (pp_var 1) (pp_len o rfl F.b_len (PP.h (pp_var 0)))) (pbk_one (st_ret (pp_ix o (PP.h (pp_var 0)) (pp_var 1)))) pbk_nil)
      (pbk_one (st_ret pp_int)))⟩

/-! ### _law_level -/
def p__law_level : SX := (seqX (asgX (c1 (aCons (fC (.str "")) aNil) gLstD) (bNm 2))
  (seqX (forS (iR1 (fV 1)) (bNm 3) (seqX (asgX (c1 aNil gLstD) (bNm 4))
  (seqX (forS (iA (fV 2)) (bNm 5) (asgX (b2 (fV 4) (lcX (iR1 (fV 0)) [6] (bNm 6) fYes (b2 (fV 5) (b2 (fC (.str "0123")) (fV 6) gIx) gAdd)) gAdd) (bNm 4)))
  (asgX (fV 4) (bNm 2)))))
  (retX (fV 2))))
abbrev F__law_level : FX := defX 2 7 p__law_level
theorem b__law_level {P : Program} {w : World} {base : Heap} {K : PySem.W.Frag} {mg : Str → Option Value} {Ts : List Addr} {f : Addr} {cdv : Value} (F : Fc K mg) 
    (A : Around) (outer : List Env) (s : Shared) (H : Hp) (E : XK) (hr : Room 0 (A.deeper (envOfC "_law_level" (defScope (top 59)) s.heap.objs.size f cdv))) :
    ∃ t, PBk (cxOf (L2.CX P w) P w K mg base ["k", "n", "strings", "step", "longer", "one", "digit"] "_law_level" (defScope (top 59)) f cdv A outer s H E) (CfD ⟨K, mg, Ts⟩ []) (WD E) (defBody (top 59)) t p__law_level := by
  have o : On (cxOf (L2.CX P w) P w K mg base ["k", "n", "strings", "step", "longer", "one", "digit"] "_law_level" (defScope (top 59)) f cdv A outer s H E) (CfD ⟨K, mg, Ts⟩ []) 0 := .mk' rfl rfl hr (show (["k", "n", "strings", "step", "longer", "one", "digit"] : List Str).Nodup by decide +kernel)
  have tk : Takes (cxOf (L2.CX P w) P w K mg base ["k", "n", "strings", "step", "longer", "one", "digit"] "_law_level" (defScope (top 59)) f cdv A outer s H E) (WD E) := takes_of rfl rfl rfl rfl
  have po := passes_of (X := (cxOf (L2.CX P w) P w K mg base ["k", "n", "strings", "step", "longer", "one", "digit"] "_law_level" (defScope (top 59)) f cdv A outer s H E)) rfl
  exact ⟨_, (pbk_cons (st_set o 2 (PF.pp (pf_lst (par_cons pp_str par_nil))))
      (pbk_cons (st_for o rfl po (pi_r1 o rfl F.b_range (pp_var 1)) (tg_nm o.k 3) (pbk_cons (st_set o 4 (PF.pp (pf_lst par_nil)))
      (pbk_cons (st_for o rfl po (pi_any o (pp_var 2)) (tg_nm o.k 5) (pbk_one (st_set o 4 (pp_add o (pp_var 4) (PF.pp (pf_lc o rfl (own := [("digit", 6)]) (pi_r1 o rfl F.b_range (pp_var 0)) (blkOk_by (by kernel_rfl)) (wp_nm (by simp)) rfl (fun _ _ _ _ _ => (tg_nm o.blk.k 6)) (fun _ _ _ _ _ => ptf_nil) (fun _ _ _ _ _ => (pp_add o.blk (pp_var 5) (pp_ix o.blk (PP.h pp_str) (pp_var 6))))))))))
      (pbk_one (st_set o 2 (pp_var 4))))))
      (pbk_one (st_ret (pp_var 2)))))⟩

/-! ### _law_moved -/
def p__law_moved : SX := (seqX (forS (iA (fV 1)) (bNm 3) (seqX (asgX (b2 (fI (fC (.str "abcdefgh"))) (b1 (fV 3) gLower) gIndex) (bNm 4))
  (seqX (asgX (fC (.str "")) (bNm 5))
  (seqX (forS (iA (fV 2)) (bNm 6) (seqX (asgX (b2 (b2 (fV 0) (fC (.int 1)) gIx) (fV 4) gIx) (bNm 7))
  (seqX (ifS (toT (b2 (fV 3) (fC (.str "abcdefgh")) gInS)) (asgX (b2 (fV 7) (b1 (fV 6) gInt) gIx) (bTup 2 (bCons (bNm 9) (bCons (bNm 4) bNil)))) (seqX (asgX (lcX (iA (fV 7)) [10] (bNm 10) fYes (b2 (fV 10) (fC (.int 0)) gIx)) (bNm 8))
  (seqX (asgX (b2 (fI (fV 8)) (b1 (fV 6) gInt) gIndex) (bNm 9))
  (asgX (b2 (b2 (fV 7) (fV 9) gIx) (fC (.int 1)) gIx) (bNm 4)))))
  (asgX (b2 (fV 5) (b2 (fC (.str "0123")) (fV 9) gIx) gAdd) (bNm 5)))))
  (asgX (fV 5) (bNm 2))))))
  (retX (fV 2)))
abbrev F__law_moved : FX := defX 3 11 p__law_moved
theorem b__law_moved {P : Program} {w : World} {base : Heap} {K : PySem.W.Frag} {mg : Str → Option Value} {Ts : List Addr} {f : Addr} {cdv : Value} (F : Fc K mg) 
    (A : Around) (outer : List Env) (s : Shared) (H : Hp) (E : XK) (hr : Room 0 (A.deeper (envOfC "_law_moved" (defScope (top 58)) s.heap.objs.size f cdv))) :
    ∃ t, PBk (cxOf (L2.CX P w) P w K mg base ["machine", "word", "string", "letter", "state", "written", "digit", "row", "outs", "out", "entry"] "_law_moved" (defScope (top 58)) f cdv A outer s H E) (CfD ⟨K, mg, Ts⟩ []) (WD E) (defBody (top 58)) t p__law_moved := by
  have o : On (cxOf (L2.CX P w) P w K mg base ["machine", "word", "string", "letter", "state", "written", "digit", "row", "outs", "out", "entry"] "_law_moved" (defScope (top 58)) f cdv A outer s H E) (CfD ⟨K, mg, Ts⟩ []) 0 := .mk' rfl rfl hr (show (["machine", "word", "string", "letter", "state", "written", "digit", "row", "outs", "out", "entry"] : List Str).Nodup by decide +kernel)
  have tk : Takes (cxOf (L2.CX P w) P w K mg base ["machine", "word", "string", "letter", "state", "written", "digit", "row", "outs", "out", "entry"] "_law_moved" (defScope (top 58)) f cdv A outer s H E) (WD E) := takes_of rfl rfl rfl rfl
  have po := passes_of (X := (cxOf (L2.CX P w) P w K mg base ["machine", "word", "string", "letter", "state", "written", "digit", "row", "outs", "out", "entry"] "_law_moved" (defScope (top 58)) f cdv A outer s H E)) rfl
  exact ⟨_, (pbk_cons (st_for o rfl po (pi_any o (pp_var 1)) (tg_nm o.k 3) (pbk_cons (st_set o 4 (pp_index o (PP.h pp_str) (pp_lower o (pp_var 3))))
      (pbk_cons (st_set o 5 pp_str)
      (pbk_cons (st_for o rfl po (pi_any o (pp_var 2)) (tg_nm o.k 6) (pbk_cons (st_set o 7 (pp_ix o (PP.h (pp_ix o (PP.h (pp_var 0)) pp_int)) (pp_var 4)))
      (pbk_cons (st_if (pt_inS o (pp_var 3) pp_str) (pbk_one (st_asg (pp_ix o (PP.h (pp_var 7)) (pp_int1 o rfl F.b_int (PP.h (pp_var 6)))) (tg_tup o.k rfl (tgs_cons (tg_nm o.k 9) (tgs_cons (tg_nm o.k 4) tgs_nil))))) (pbk_cons (st_setLc o rfl 8 (own := [("entry", 10)]) (pi_any o (pp_var 7)) (blkOk_by (by kernel_rfl)) (wp_nm (by simp)) rfl (fun _ _ _ _ _ => (tg_nm o.blk.k 10)) (fun _ _ _ _ _ => ptf_nil) (fun _ _ _ _ _ => (pp_ix o.blk (PP.h (pp_var 10)) pp_int)) (sw_true rfl rfl rfl (by kernel_rfl)))
      (pbk_cons (st_set o 9 (pp_index o (PP.h (pp_var 8)) (pp_int1 o rfl F.b_int (PP.h (pp_var 6)))))
      (pbk_one (st_set o 4 (pp_ix o (PP.h (pp_ix o (PP.h (pp_var 7)) (pp_var 9))) pp_int))))))
      (pbk_one (st_set o 5 (pp_add o (pp_var 5) (pp_ix o (PP.h pp_str) (pp_var 9))))))))
      (pbk_one (st_set o 2 (pp_var 5)))))))
      (pbk_one (st_ret (pp_var 2))))⟩

/-! ### _law_graph -/
def p__law_graph : SX := (seqX (asgX (callX (aCons (b2 (fV 0) (fC (.int 0)) gIx) (aCons (fV 2) aNil)) F__law_level) (bNm 3))
  (seqX (asgX (c1 aNil gLstD) (bNmF 4))
  (seqX (forS (iA (fV 1)) (bNm 5) (appX 4 (b1 (lcX (iA (fV 3)) [6] (bNm 6) fYes (b2 (fI (fV 3)) (callX (aCons (fV 0) (aCons (fV 5) (aCons (fV 6) aNil))) F__law_moved) gIndex)) gTupO)))
  (retX (b1 (fO 4) gTupO)))))
abbrev F__law_graph : FX := defX 3 7 p__law_graph
theorem b__law_graph {P : Program} {w : World} {base : Heap} {K : PySem.W.Frag} {mg : Str → Option Value} {Ts : List Addr} {f : Addr} {cdv : Value} (F : Fc K mg) (D__law_level : Df P w base ⟨K, mg, Ts⟩ "_law_level" 1 2 F__law_level) (D__law_moved : Df P w base ⟨K, mg, Ts⟩ "_law_moved" 1 3 F__law_moved)
    (A : Around) (outer : List Env) (s : Shared) (H : Hp) (E : XK) (hr : Room 1 (A.deeper (envOfC "_law_graph" (defScope (top 60)) s.heap.objs.size f cdv))) :
    ∃ t, PBk (cxOf (L2.CX P w) P w K mg base ["machine", "words", "n", "strings", "rows", "word", "string"] "_law_graph" (defScope (top 60)) f cdv A outer s H E) (CfD ⟨K, mg, Ts⟩ [4]) (WD E) (defBody (top 60)) t p__law_graph := by
  have o : On (cxOf (L2.CX P w) P w K mg base ["machine", "words", "n", "strings", "rows", "word", "string"] "_law_graph" (defScope (top 60)) f cdv A outer s H E) (CfD ⟨K, mg, Ts⟩ [4]) 1 := .mk' rfl rfl hr (show (["machine", "words", "n", "strings", "rows", "word", "string"] : List Str).Nodup by decide +kernel)
  have tk : Takes (cxOf (L2.CX P w) P w K mg base ["machine", "words", "n", "strings", "rows", "word", "string"] "_law_graph" (defScope (top 60)) f cdv A outer s H E) (WD E) := takes_of rfl rfl rfl rfl
  have po := passes_of (X := (cxOf (L2.CX P w) P w K mg base ["machine", "words", "n", "strings", "rows", "word", "string"] "_law_graph" (defScope (top 60)) f cdv A outer s H E)) rfl
  exact ⟨_, (pbk_cons (st_set o 3 (pp_call D__law_level o rfl (by decide) tk rfl (par_cons (pp_ix o (PP.h (pp_var 0)) pp_int) (par_cons (pp_var 2) par_nil))))
      (pbk_cons (st_setF o 4 (pf_lst par_nil))
      (pbk_cons (st_for o rfl po (pi_any o (pp_var 1)) (tg_nm o.k 5) (pbk_one (st_append o 4 (pp_tupO o rfl F.b_tuple (PP.h (PF.pp (pf_lc o rfl (own := [("string", 6)]) (pi_any o (pp_var 3)) (blkOk_by (by kernel_rfl)) (wp_nm (by simp)) rfl (fun _ _ _ _ _ => (tg_nm o.blk.k 6)) (fun _ _ _ _ _ => ptf_nil) (fun _ _ _ _ _ => (pp_index o.blk (PP.h (pp_var 3)) (pp_call D__law_moved o.blk rfl (by decide) takes0 rfl (par_cons (pp_var 0) (par_cons (pp_var 5) (par_cons (pp_var 6) par_nil)))))))))))))
      (pbk_one (st_ret (pp_tupO o rfl F.b_tuple (ph_own 4)))))))⟩

/-! ### _law_arranged -/
def p__law_arranged : SX := (seqX (asgX (b1 (fV 1) gRg1L) (bNm 2))
  (seqX (asgX (c1 aNil gLstD) (bNmF 3))
  (seqX (forS (iR1 (fV 1)) (bNm 4) (seqX (asgX (b2 (fV 0) (b1 (fV 2) gLen) gMod) (bNm 5))
  (seqX (asgX (b2 (fV 0) (b1 (fV 2) gLen) gDiv) (bNm 0))
  (seqX (appX 3 (b2 (fV 2) (fV 5) gIx))
  (asgX (b2 (s3 (fV 2) oNone (oSome (fV 5)) gSl) (s3 (fV 2) (oSome (b2 (fV 5) (fC (.int 1)) gAdd)) oNone gSl) gAdd) (bNm 2))))))
  (retX (b1 (fO 3) gTupO)))))
abbrev F__law_arranged : FX := defX 2 6 p__law_arranged
theorem b__law_arranged {P : Program} {w : World} {base : Heap} {K : PySem.W.Frag} {mg : Str → Option Value} {Ts : List Addr} {f : Addr} {cdv : Value} (F : Fc K mg) 
    (A : Around) (outer : List Env) (s : Shared) (H : Hp) (E : XK) (hr : Room 0 (A.deeper (envOfC "_law_arranged" (defScope (top 53)) s.heap.objs.size f cdv))) :
    ∃ t, PBk (cxOf (L2.CX P w) P w K mg base ["value", "size", "left", "row", "k", "at"] "_law_arranged" (defScope (top 53)) f cdv A outer s H E) (CfD ⟨K, mg, Ts⟩ [3]) (WD E) (defBody (top 53)) t p__law_arranged := by
  have o : On (cxOf (L2.CX P w) P w K mg base ["value", "size", "left", "row", "k", "at"] "_law_arranged" (defScope (top 53)) f cdv A outer s H E) (CfD ⟨K, mg, Ts⟩ [3]) 0 := .mk' rfl rfl hr (show (["value", "size", "left", "row", "k", "at"] : List Str).Nodup by decide +kernel)
  have tk : Takes (cxOf (L2.CX P w) P w K mg base ["value", "size", "left", "row", "k", "at"] "_law_arranged" (defScope (top 53)) f cdv A outer s H E) (WD E) := takes_of rfl rfl rfl rfl
  have po := passes_of (X := (cxOf (L2.CX P w) P w K mg base ["value", "size", "left", "row", "k", "at"] "_law_arranged" (defScope (top 53)) f cdv A outer s H E)) rfl
  exact ⟨_, (pbk_cons (st_set o 2 (PF.pp (pf_listRg1 o rfl rfl F.b_list rfl F.b_range (pp_var 1))))
      (pbk_cons (st_setF o 3 (pf_lst par_nil))
      (pbk_cons (st_for o rfl po (pi_r1 o rfl F.b_range (pp_var 1)) (tg_nm o.k 4) (pbk_cons (st_set o 5 (pp_mod o (pp_var 0) (pp_len o rfl F.b_len (PP.h (pp_var 2)))))
      (pbk_cons (st_set o 0 (pp_div o (pp_var 0) (pp_len o rfl F.b_len (PP.h (pp_var 2)))))
      (pbk_cons (st_append o 3 (pp_ix o (PP.h (pp_var 2)) (pp_var 5)))
      (pbk_one (st_set o 2 (pp_add o (pp_slice o (PP.h (pp_var 2)) ppo_none (ppo_some (pp_var 5))) (pp_slice o (PP.h (pp_var 2)) (ppo_some (pp_add o (pp_var 5) pp_int)) ppo_none))))))))
      (pbk_one (st_ret (pp_tupO o rfl F.b_tuple (ph_own 3)))))))⟩

/-! ### _law_values -/
def p__law_values : SX := (seqX (asgX (c1 aNil gLstD) (bNmF 3))
  (seqX (asgX (fV 0) (bNm 4))
  (seqX (forS (iR1 (fV 1)) (bNm 5) (ifS (toT (b2 (fV 4) (b2 (fC (.int 10)) (fC (.int 12)) gPow) gGeI)) (seqX (appX 3 (b2 (b1 (fV 4) gInt) (fV 2) gMod))
  (asgX (b2 (fV 4) (fV 2) gDiv) (bNm 4))) (seqX (asgX (b2 (b2 (b2 (b2 (b2 (b1 (fV 0) gInt) (fC (.int 2147483647)) gMod) (fC (.int 48271)) gMul) (b2 (fV 5) (fC (.int 69621)) gMul) gAdd) (fC (.int 7)) gAdd) (fC (.int 2147483647)) gMod) (bNm 6))
  (appX 3 (b2 (b2 (b2 (fV 6) (fC (.int 16807)) gMul) (fC (.int 2147483647)) gMod) (fV 2) gMod)))))
  (retX (fV 3)))))
abbrev F__law_values : FX := defX 3 7 p__law_values
theorem b__law_values {P : Program} {w : World} {base : Heap} {K : PySem.W.Frag} {mg : Str → Option Value} {Ts : List Addr} {f : Addr} {cdv : Value} (F : Fc K mg) 
    (A : Around) (outer : List Env) (s : Shared) (H : Hp) (E : XK) (hr : Room 0 (A.deeper (envOfC "_law_values" (defScope (top 52)) s.heap.objs.size f cdv))) :
    ∃ t, PBk (cxOf (L2.CX P w) P w K mg base ["cell", "count", "size", "values", "rest", "k", "mixed"] "_law_values" (defScope (top 52)) f cdv A outer s H E) (CfD ⟨K, mg, Ts⟩ [3]) (WD E) (defBody (top 52)) t p__law_values := by
  have o : On (cxOf (L2.CX P w) P w K mg base ["cell", "count", "size", "values", "rest", "k", "mixed"] "_law_values" (defScope (top 52)) f cdv A outer s H E) (CfD ⟨K, mg, Ts⟩ [3]) 0 := .mk' rfl rfl hr (show (["cell", "count", "size", "values", "rest", "k", "mixed"] : List Str).Nodup by decide +kernel)
  have tk : Takes (cxOf (L2.CX P w) P w K mg base ["cell", "count", "size", "values", "rest", "k", "mixed"] "_law_values" (defScope (top 52)) f cdv A outer s H E) (WD E) := takes_of rfl rfl rfl rfl
  have po := passes_of (X := (cxOf (L2.CX P w) P w K mg base ["cell", "count", "size", "values", "rest", "k", "mixed"] "_law_values" (defScope (top 52)) f cdv A outer s H E)) rfl
  exact ⟨_, (pbk_cons (st_setF o 3 (pf_lst par_nil))
      (pbk_cons (st_set o 4 (pp_var 0))
      (pbk_cons (st_for o rfl po (pi_r1 o rfl F.b_range (pp_var 1)) (tg_nm o.k 5) (pbk_one (st_if (pt_ge o (pp_var 4) (pp_pow o pp_int pp_int)) (pbk_cons (st_append o 3 (pp_mod o (pp_int1 o rfl F.b_int (PP.h (pp_var 4))) (pp_var 2)))
      (pbk_one (st_set o 4 (pp_div o (pp_var 4) (pp_var 2))))) (pbk_cons (st_set o 6 (pp_mod o (pp_add o (pp_add o (pp_mul o (pp_mod o (pp_int1 o rfl F.b_int (PP.h (pp_var 0))) pp_int) pp_int) (pp_mul o (pp_var 5) pp_int)) pp_int) pp_int))
      (pbk_one (st_append o 3 (pp_mod o (pp_mod o (pp_mul o (pp_var 6) pp_int) pp_int) (pp_var 2))))))))
      (pbk_one (st_ret (pp_own 3))))))⟩

/-! ### _law_machine -/
def p__law_machine : SX := (seqX (asgX (callX (aCons (fV 0) (aCons (b2 (fV 3) (fC (.int 1)) gAdd) (aCons (fC (.int 997)) aNil))) F__law_values) (bNm 4))
  (seqX (asgX (callX (aCons (fV 1) (aCons (b2 (fV 3) (fV 2) gMul) (aCons (fC (.int 997)) aNil))) F__law_values) (bNm 5))
  (seqX (asgX (b2 (b2 (fV 4) (fV 3) gIx) (fC (.int 4)) gMod) (bNm 6))
  (seqX (asgX (c1 aNil gLstD) (bNmF 7))
  (seqX (forS (iR1 (fV 3)) (bNm 8) (seqX (asgX (callX (aCons (b2 (fV 4) (fV 8) gIx) (aCons (fV 2) aNil)) F__law_arranged) (bNm 9))
  (seqX (asgX (c1 aNil gLstD) (bNmF 10))
  (seqX (forS (iR1 (fV 2)) (bNm 11) (seqX (asgX (b2 (b2 (fV 5) (b2 (b2 (fV 8) (fV 2) gMul) (fV 11) gAdd) gIx) (fV 3) gMod) (bNm 12))
  (seqX (ifS (andT (toT (b2 (fV 6) (fC (.int 1)) gEq)) (toT (b2 (fV 11) (b2 (b2 (fV 5) (b2 (fV 8) (fV 2) gMul) gIx) (fV 2) gMod) gNe))) (asgX (b2 (fV 3) (fC (.int 1)) gSub) (bNm 12)) nxX)
  (appX 10 (c1 (aCons (b2 (fV 9) (fV 11) gIx) (aCons (fV 12) aNil)) gTupD)))))
  (appX 7 (b1 (fO 10) gTupO))))))
  (seqX (ifS (orT (toT (b2 (fV 6) (fC (.int 1)) gEq)) (toT (b2 (fV 6) (fC (.int 2)) gEq))) (setX 7 (b2 (fV 3) (fC (.int 1)) gSub) (b1 (lcX (iR1 (fV 2)) [11] (bNm 11) fYes (c1 (aCons (fV 11) (aCons (b2 (fV 3) (fC (.int 1)) gSub) aNil)) gTupD)) gTupO)) nxX)
  (retX (c1 (aCons (fV 2) (aCons (b1 (fO 7) gTupO) aNil)) gTupD))))))))
abbrev F__law_machine : FX := defX 4 13 p__law_machine
theorem b__law_machine {P : Program} {w : World} {base : Heap} {K : PySem.W.Frag} {mg : Str → Option Value} {Ts : List Addr} {f : Addr} {cdv : Value} (F : Fc K mg) (D__law_values : Df P w base ⟨K, mg, Ts⟩ "_law_values" 1 3 F__law_values) (D__law_arranged : Df P w base ⟨K, mg, Ts⟩ "_law_arranged" 1 2 F__law_arranged)
    (A : Around) (outer : List Env) (s : Shared) (H : Hp) (E : XK) (hr : Room 1 (A.deeper (envOfC "_law_machine" (defScope (top 54)) s.heap.objs.size f cdv))) :
    ∃ t, PBk (cxOf (L2.CX P w) P w K mg base ["cell", "second", "k", "n", "values", "turns", "kind", "rows", "state", "outs", "row", "digit", "following"] "_law_machine" (defScope (top 54)) f cdv A outer s H E) (CfD ⟨K, mg, Ts⟩ [7, 10]) (WD E) (defBody (top 54)) t p__law_machine := by
  have o : On (cxOf (L2.CX P w) P w K mg base ["cell", "second", "k", "n", "values", "turns", "kind", "rows", "state", "outs", "row", "digit", "following"] "_law_machine" (defScope (top 54)) f cdv A outer s H E) (CfD ⟨K, mg, Ts⟩ [7, 10]) 1 := .mk' rfl rfl hr (show (["cell", "second", "k", "n", "values", "turns", "kind", "rows", "state", "outs", "row", "digit", "following"] : List Str).Nodup by decide +kernel)
  have tk : Takes (cxOf (L2.CX P w) P w K mg base ["cell", "second", "k", "n", "values", "turns", "kind", "rows", "state", "outs", "row", "digit", "following"] "_law_machine" (defScope (top 54)) f cdv A outer s H E) (WD E) := takes_of rfl rfl rfl rfl
  have po := passes_of (X := (cxOf (L2.CX P w) P w K mg base ["cell", "second", "k", "n", "values", "turns", "kind", "rows", "state", "outs", "row", "digit", "following"] "_law_machine" (defScope (top 54)) f cdv A outer s H E)) rfl
  exact ⟨_, (pbk_cons (st_set o 4 (pp_call D__law_values o rfl (by decide) tk rfl (par_cons (pp_var 0) (par_cons (pp_add o (pp_var 3) pp_int) (par_cons pp_int par_nil)))))
      (pbk_cons (st_set o 5 (pp_call D__law_values o rfl (by decide) tk rfl (par_cons (pp_var 1) (par_cons (pp_mul o (pp_var 3) (pp_var 2)) (par_cons pp_int par_nil)))))
      (pbk_cons (st_set o 6 (pp_mod o (pp_ix o (PP.h (pp_var 4)) (pp_var 3)) pp_int))
      (pbk_cons (st_setF o 7 (pf_lst par_nil))
      (pbk_cons (st_for o rfl po (pi_r1 o rfl F.b_range (pp_var 3)) (tg_nm o.k 8) (pbk_cons (st_set o 9 (pp_call D__law_arranged o rfl (by decide) tk rfl (par_cons (pp_ix o (PP.h (pp_var 4)) (pp_var 8)) (par_cons (pp_var 2) par_nil))))
      (pbk_cons (st_setF o 10 (pf_lst par_nil))
      (pbk_cons (st_for o rfl po (pi_r1 o rfl F.b_range (pp_var 2)) (tg_nm o.k 11) (pbk_cons (st_set o 12 (pp_mod o (pp_ix o (PP.h (pp_var 5)) (pp_add o (pp_mul o (pp_var 8) (pp_var 2)) (pp_var 11))) (pp_var 3)))
      (pbk_cons (st_if (PWt.tt (pwt_and (pt_eq o (pp_var 6) pp_int) (pwt_and1 (pt_ne o (pp_var 11) (pp_mod o (pp_ix o (PP.h (pp_var 5)) (pp_mul o (pp_var 8) (pp_var 2))) (pp_var 2)))))) (pbk_one (st_set o 12 (pp_sub o (pp_var 3) pp_int))) pbk_nil)
      (pbk_one (st_append o 10 (pp_tup (par_cons (pp_ix o (PP.h (pp_var 9)) (pp_var 11)) (par_cons (pp_var 12) par_nil))))))))
      (pbk_one (st_append o 7 (pp_tupO o rfl F.b_tuple (ph_own 10))))))))
      (pbk_cons (st_if (PWt.tt (pwt_or (pt_eq o (pp_var 6) pp_int) (pwt_or1 (pt_eq o (pp_var 6) pp_int)))) (pbk_one (st_setitem o 7 (pp_sub o (pp_var 3) pp_int) (pp_tupO o rfl F.b_tuple (PP.h (PF.pp (pf_lc o rfl (own := [("digit", 11)]) (pi_r1 o rfl F.b_range (pp_var 2)) (blkOk_by (by kernel_rfl)) (wp_nm (by simp)) rfl (fun _ _ _ _ _ => (tg_nm o.blk.k 11)) (fun _ _ _ _ _ => ptf_nil) (fun _ _ _ _ _ => (pp_tup (par_cons (pp_var 11) (par_cons (pp_sub o.blk (pp_var 3) pp_int) par_nil)))))))))) pbk_nil)
      (pbk_one (st_ret (pp_tup (par_cons (pp_var 2) (par_cons (pp_tupO o rfl F.b_tuple (ph_own 7)) par_nil)))))))))))⟩

/-! ### has_digits -/
def p_has_digits : SX := (retX (alX (iA (fV 1)) [2] (bNm 2) (b2 (b2s (fC (.str "0123456789")) (fV 2) gFind) (fV 0) gInRg)))
abbrev F_has_digits : FX := defX 2 3 p_has_digits
theorem b_has_digits {P : Program} {w : World} {base : Heap} {K : PySem.W.Frag} {mg : Str → Option Value} {Ts : List Addr} {f : Addr} {cdv : Value} (F : Fc K mg)  {cc PP_ : Addr} (hP : PP_ ∈ Ts) (TB : LamX.TabB base mg cc PP_) (hcd : cdv = .ref cc)
    (A : Around) (outer : List Env) (s : Shared) (H : Hp) (E : XK) (hr : Room 1 (A.deeper (envOfC "has_digits" (defScope (top 20)) s.heap.objs.size f cdv))) :
    ∃ t, PBk (cxOf (L2.CX P w) P w K mg base ["k", "string", "digit"] "has_digits" (defScope (top 20)) f cdv A outer s H E) (CfD ⟨K, mg, Ts⟩ []) (WD E) (defBody (top 20)) t p_has_digits := by
  have o : On (cxOf (L2.CX P w) P w K mg base ["k", "string", "digit"] "has_digits" (defScope (top 20)) f cdv A outer s H E) (CfD ⟨K, mg, Ts⟩ []) 1 := .mk' rfl rfl hr (show (["k", "string", "digit"] : List Str).Nodup by decide +kernel)
  have tk : Takes (cxOf (L2.CX P w) P w K mg base ["k", "string", "digit"] "has_digits" (defScope (top 20)) f cdv A outer s H E) (WD E) := takes_of rfl rfl rfl rfl
  have po := passes_of (X := (cxOf (L2.CX P w) P w K mg base ["k", "string", "digit"] "has_digits" (defScope (top 20)) f cdv A outer s H E)) rfl
  exact ⟨_, (pbk_one (st_ret (pp_allG (own := [("digit", 2)]) o rfl rfl F.b_all hP TB hcd (pi_any o (pp_var 1)) (blkOk_by (by kernel_rfl)) (wp_nm (by simp)) rfl rfl (by decide +kernel) (by kernel_rfl) (show (".0" : Str) ∉ (["k", "string", "digit"] : List Str) by decide +kernel) (fun _ _ _ _ _ => (tg_nm o.k.gen 2)) (fun _ _ _ _ _ hB1 => (pp_inRg1 (o.gen hB1) rfl F.b_range (pp_find (o.gen hB1) (pp_gstr (o.gen hB1) F.g_DIGITS) (pp_var 2)) (pp_var 0))))))⟩

/-! ### check_string -/
def p_check_string : SX := (ifS (orT (toT (b2 (b1 (fV 1) gLen) (fC (.int 60)) gGtI)) (notT (toT (callX (aCons (fV 0) (aCons (fV 1) aNil)) F_has_digits)))) (raX (fC (.str "not a string of the digits, or too long")) "NotString") nxX)
abbrev F_check_string : FX := defX 2 2 p_check_string
theorem b_check_string {P : Program} {w : World} {base : Heap} {K : PySem.W.Frag} {mg : Str → Option Value} {Ts : List Addr} {f : Addr} {cdv : Value} (F : Fc K mg) (D_has_digits : Df P w base ⟨K, mg, Ts⟩ "has_digits" 2 2 F_has_digits)
    (A : Around) (outer : List Env) (s : Shared) (H : Hp) (E : XK) (hr : Room 2 (A.deeper (envOfC "check_string" (defScope (top 21)) s.heap.objs.size f cdv))) :
    ∃ t, PBk (cxOf (L2.CX P w) P w K mg base ["k", "string"] "check_string" (defScope (top 21)) f cdv A outer s H E) (CfD ⟨K, mg, Ts⟩ []) (WD E) (defBody (top 21)) t p_check_string := by
  have o : On (cxOf (L2.CX P w) P w K mg base ["k", "string"] "check_string" (defScope (top 21)) f cdv A outer s H E) (CfD ⟨K, mg, Ts⟩ []) 2 := .mk' rfl rfl hr (show (["k", "string"] : List Str).Nodup by decide +kernel)
  have tk : Takes (cxOf (L2.CX P w) P w K mg base ["k", "string"] "check_string" (defScope (top 21)) f cdv A outer s H E) (WD E) := takes_of rfl rfl rfl rfl
  have po := passes_of (X := (cxOf (L2.CX P w) P w K mg base ["k", "string"] "check_string" (defScope (top 21)) f cdv A outer s H E)) rfl
  exact ⟨_, (pbk_one (st_if (PWt.tt (pwt_or (pt_gt o (pp_len o rfl F.b_len (PP.h (pp_var 1))) (pp_gint o F.g_LONGEST_STRING)) (pwt_or1 (ptt_not (ptt_val (pp_call D_has_digits o rfl (by decide) tk rfl (par_cons (pp_var 0) (par_cons (pp_var 1) par_nil)))))))) (pbk_one (st_raise o rfl tk F.x_NotString rfl pp_str)) pbk_nil))⟩

/-! ### number_of -/
def p_number_of : SX := (seqX (dropX (callX (aCons (fV 0) aNil) F_check_count))
  (seqX (dropX (callX (aCons (fV 0) (aCons (fV 1) aNil)) F_check_string))
  (seqX (asgX (fC (.int 0)) (bNm 2))
  (seqX (forS (iA (fV 1)) (bNm 3) (asgX (b2 (b2 (fV 2) (fV 0) gMul) (b1 (fV 3) gInt) gAdd) (bNm 2)))
  (retX (fV 2))))))
abbrev F_number_of : FX := defX 2 4 p_number_of
theorem b_number_of {P : Program} {w : World} {base : Heap} {K : PySem.W.Frag} {mg : Str → Option Value} {Ts : List Addr} {f : Addr} {cdv : Value} (F : Fc K mg) (D_check_count : Df P w base ⟨K, mg, Ts⟩ "check_count" 1 1 F_check_count) (D_check_string : Df P w base ⟨K, mg, Ts⟩ "check_string" 3 2 F_check_string)
    (A : Around) (outer : List Env) (s : Shared) (H : Hp) (E : XK) (hr : Room 3 (A.deeper (envOfC "number_of" (defScope (top 48)) s.heap.objs.size f cdv))) :
    ∃ t, PBk (cxOf (L2.CX P w) P w K mg base ["k", "string", "number", "digit"] "number_of" (defScope (top 48)) f cdv A outer s H E) (CfD ⟨K, mg, Ts⟩ []) (WD E) (defBody (top 48)) t p_number_of := by
  have o : On (cxOf (L2.CX P w) P w K mg base ["k", "string", "number", "digit"] "number_of" (defScope (top 48)) f cdv A outer s H E) (CfD ⟨K, mg, Ts⟩ []) 3 := .mk' rfl rfl hr (show (["k", "string", "number", "digit"] : List Str).Nodup by decide +kernel)
  have tk : Takes (cxOf (L2.CX P w) P w K mg base ["k", "string", "number", "digit"] "number_of" (defScope (top 48)) f cdv A outer s H E) (WD E) := takes_of rfl rfl rfl rfl
  have po := passes_of (X := (cxOf (L2.CX P w) P w K mg base ["k", "string", "number", "digit"] "number_of" (defScope (top 48)) f cdv A outer s H E)) rfl
  exact ⟨_, (pbk_cons (st_expr (m := .rd) (pp_call D_check_count o rfl (by decide) tk rfl (par_cons (pp_var 0) par_nil)))
      (pbk_cons (st_expr (m := .rd) (pp_call D_check_string o rfl (by decide) tk rfl (par_cons (pp_var 0) (par_cons (pp_var 1) par_nil))))
      (pbk_cons (st_set o 2 pp_int)
      (pbk_cons (st_for o rfl po (pi_any o (pp_var 1)) (tg_nm o.k 3) (pbk_one (st_set o 2 (pp_add o (pp_mul o (pp_var 2) (pp_var 0)) (pp_int1 o rfl F.b_int (PP.h (pp_var 3)))))))
      (pbk_one (st_ret (pp_var 2)))))))⟩

/-! ### _law_number -/
def p__law_number : SX := (tryM (retX (callX (aCons (fV 0) (aCons (fV 1) aNil)) F_number_of)) ((l_m_BadNumber, (retX (fC (.str "number")))) :: ((l_m_NotString, (retX (fC (.str "string")))) :: [])))
abbrev F__law_number : FX := defX 2 2 p__law_number
theorem b__law_number {P : Program} {w : World} {base : Heap} {K : PySem.W.Frag} {mg : Str → Option Value} {Ts : List Addr} {f : Addr} {cdv : Value} (F : Fc K mg) (D_number_of : Df P w base ⟨K, mg, Ts⟩ "number_of" 4 2 F_number_of)
    (A : Around) (outer : List Env) (s : Shared) (H : Hp) (E : XK) (hr : Room 4 (A.deeper (envOfC "_law_number" (defScope (top 62)) s.heap.objs.size f cdv))) :
    ∃ t, PBk (cxOf (L2.CX P w) P w K mg base ["k", "string"] "_law_number" (defScope (top 62)) f cdv A outer s H E) (CfD ⟨K, mg, Ts⟩ []) (WD E) (defBody (top 62)) t p__law_number := by
  have o : On (cxOf (L2.CX P w) P w K mg base ["k", "string"] "_law_number" (defScope (top 62)) f cdv A outer s H E) (CfD ⟨K, mg, Ts⟩ []) 4 := .mk' rfl rfl hr (show (["k", "string"] : List Str).Nodup by decide +kernel)
  have tk : Takes (cxOf (L2.CX P w) P w K mg base ["k", "string"] "_law_number" (defScope (top 62)) f cdv A outer s H E) (WD E) := takes_of rfl rfl rfl rfl
  have po := passes_of (X := (cxOf (L2.CX P w) P w K mg base ["k", "string"] "_law_number" (defScope (top 62)) f cdv A outer s H E)) rfl
  exact ⟨_, (pbk_one (st_try_many o rfl rfl tk (fun W pn xe tk po => (pbk_one (st_ret (pp_call D_number_of o.tr rfl (by decide) tk rfl (par_cons (pp_var 0) (par_cons (pp_var 1) par_nil)))))) (.cons F.x_BadNumber rfl (by decide) F.m_BadNumber (fun a oe cls d pn hz hf => (pbk_one (st_ret pp_str))) (.cons F.x_NotString rfl (by decide) F.m_NotString (fun a oe cls d pn hz hf => (pbk_one (st_ret pp_str))) .nil))))⟩

/-! ### is_row -/
def p_is_row : SX := (seqX (asgX (b1 (lcX (iA (fV 0)) [4, 5] (bTup 2 (bCons (bNm 4) (bCons (bNm 5) bNil))) fYes (fV 4)) gSortI) (bNm 3))
  (retX (andX (b2 (fV 3) (b1 (fV 1) gRg1L) gEq) (alX (iA (fV 0)) [5, 6] (bTup 2 (bCons (bNm 5) (bCons (bNm 6) bNil))) (b2 (fV 6) (fV 2) gInRg)))))
abbrev F_is_row : FX := defX 3 7 p_is_row
theorem b_is_row {P : Program} {w : World} {base : Heap} {K : PySem.W.Frag} {mg : Str → Option Value} {Ts : List Addr} {f : Addr} {cdv : Value} (F : Fc K mg)  {cc PP_ : Addr} (hP : PP_ ∈ Ts) (TB : LamX.TabB base mg cc PP_) (hcd : cdv = .ref cc)
    (A : Around) (outer : List Env) (s : Shared) (H : Hp) (E : XK) (hr : Room 1 (A.deeper (envOfC "is_row" (defScope (top 15)) s.heap.objs.size f cdv))) :
    ∃ t, PBk (cxOf (L2.CX P w) P w K mg base ["row", "k", "states", "written", "out", "_", "after"] "is_row" (defScope (top 15)) f cdv A outer s H E) (CfD ⟨K, mg, Ts⟩ []) (WD E) (defBody (top 15)) t p_is_row := by
  have o : On (cxOf (L2.CX P w) P w K mg base ["row", "k", "states", "written", "out", "_", "after"] "is_row" (defScope (top 15)) f cdv A outer s H E) (CfD ⟨K, mg, Ts⟩ []) 1 := .mk' rfl rfl hr (show (["row", "k", "states", "written", "out", "_", "after"] : List Str).Nodup by decide +kernel)
  have tk : Takes (cxOf (L2.CX P w) P w K mg base ["row", "k", "states", "written", "out", "_", "after"] "is_row" (defScope (top 15)) f cdv A outer s H E) (WD E) := takes_of rfl rfl rfl rfl
  have po := passes_of (X := (cxOf (L2.CX P w) P w K mg base ["row", "k", "states", "written", "out", "_", "after"] "is_row" (defScope (top 15)) f cdv A outer s H E)) rfl
  exact ⟨_, (pbk_cons (st_set o 3 (PF.pp (pf_sortI o rfl F.b_sorted (PP.h (PF.pp (pf_lc o rfl (own := [("out", 4), ("_", 5)]) (pi_any o (pp_var 0)) (blkOk_by (by kernel_rfl)) (wp_tup (wp_cons (wp_nm (by simp)) (wp_cons (wp_nm (by simp)) wp_nil mon_nm mon_nil) mon_nm (mon_cons mon_nm mon_nil))) rfl (fun _ _ _ _ _ => (tg_tup o.blk.k rfl (tgs_cons (tg_nm o.blk.k 4) (tgs_cons (tg_nm o.blk.k 5) tgs_nil)))) (fun _ _ _ _ _ => ptf_nil) (fun _ _ _ _ _ => (pp_var 4))))))))
      (pbk_one (st_ret (pp_and (pp_eq o (pp_var 3) (PF.pp (pf_listRg1 o rfl rfl F.b_list rfl F.b_range (pp_var 1)))) (pp_one (pp_allG (own := [("_", 5), ("after", 6)]) o rfl rfl F.b_all hP TB hcd (pi_any o (pp_var 0)) (blkOk_by (by kernel_rfl)) (wp_tup (wp_cons (wp_nm (by simp)) (wp_cons (wp_nm (by simp)) wp_nil mon_nm mon_nil) mon_nm (mon_cons mon_nm mon_nil))) rfl rfl (by decide +kernel) (by kernel_rfl) (show (".0" : Str) ∉ (["row", "k", "states", "written", "out", "_", "after"] : List Str) by decide +kernel) (fun _ _ _ _ _ => (tg_tup o.k.gen rfl (tgs_cons (tg_nm o.k.gen 5) (tgs_cons (tg_nm o.k.gen 6) tgs_nil)))) (fun _ _ _ _ _ hB1 => (pp_inRg1 (o.gen hB1) rfl F.b_range (pp_var 6) (pp_var 2)))))))))⟩

/-! ### is_wide -/
def p_is_wide : SX := (seqX (asgX (fV 0) (bTup 2 (bCons (bNm 1) (bCons (bNm 2) bNil))))
  (seqX (ifS (orT (notT (toT (chainX (fC (.int 2)) (fV 1) (fC (.int 4)) gLeI gLeI))) (notT (toT (chainX (fC (.int 1)) (b1 (fV 2) gLen) (fC (.int 200)) gLeI gLeI)))) (retX (fC (.bool false))) nxX)
  (retX (alX (iA (fV 2)) [3] (bNm 3) (callX (aCons (fV 3) (aCons (fV 1) (aCons (b1 (fV 2) gLen) aNil))) F_is_row)))))
abbrev F_is_wide : FX := defX 1 4 p_is_wide
theorem b_is_wide {P : Program} {w : World} {base : Heap} {K : PySem.W.Frag} {mg : Str → Option Value} {Ts : List Addr} {f : Addr} {cdv : Value} (F : Fc K mg) (D_is_row : Df P w base ⟨K, mg, Ts⟩ "is_row" 2 3 F_is_row) {cc PP_ : Addr} (hP : PP_ ∈ Ts) (TB : LamX.TabB base mg cc PP_) (hcd : cdv = .ref cc)
    (A : Around) (outer : List Env) (s : Shared) (H : Hp) (E : XK) (hr : Room 3 (A.deeper (envOfC "is_wide" (defScope (top 14)) s.heap.objs.size f cdv))) :
    ∃ t, PBk (cxOf (L2.CX P w) P w K mg base ["machine", "k", "rows", "row"] "is_wide" (defScope (top 14)) f cdv A outer s H E) (CfD ⟨K, mg, Ts⟩ []) (WD E) (defBody (top 14)) t p_is_wide := by
  have o : On (cxOf (L2.CX P w) P w K mg base ["machine", "k", "rows", "row"] "is_wide" (defScope (top 14)) f cdv A outer s H E) (CfD ⟨K, mg, Ts⟩ []) 3 := .mk' rfl rfl hr (show (["machine", "k", "rows", "row"] : List Str).Nodup by decide +kernel)
  have tk : Takes (cxOf (L2.CX P w) P w K mg base ["machine", "k", "rows", "row"] "is_wide" (defScope (top 14)) f cdv A outer s H E) (WD E) := takes_of rfl rfl rfl rfl
  have po := passes_of (X := (cxOf (L2.CX P w) P w K mg base ["machine", "k", "rows", "row"] "is_wide" (defScope (top 14)) f cdv A outer s H E)) rfl
  exact ⟨_, (pbk_cons (st_asg (pp_var 0) (tg_tup o.k rfl (tgs_cons (tg_nm o.k 1) (tgs_cons (tg_nm o.k 2) tgs_nil))))
      (pbk_cons (st_if (PWt.tt (pwt_or (ptt_not (pt_lele o (pp_gint o F.g_LEAST_DIGITS) (pp_var 1) (pp_gint o F.g_MOST_DIGITS))) (pwt_or1 (ptt_not (pt_lele o pp_int (pp_len o rfl F.b_len (PP.h (pp_var 2))) (pp_gint o F.g_MOST_WIDE_STATES)))))) (pbk_one (st_ret pp_bl)) pbk_nil)
      (pbk_one (st_ret (pp_allG (own := [("row", 3)]) o rfl rfl F.b_all hP TB hcd (pi_any o (pp_var 2)) (blkOk_by (by kernel_rfl)) (wp_nm (by simp)) rfl rfl (by decide +kernel) (by kernel_rfl) (show (".0" : Str) ∉ (["machine", "k", "rows", "row"] : List Str) by decide +kernel) (fun _ _ _ _ _ => (tg_nm o.k.gen 3)) (fun _ _ _ _ _ hB1 => (pp_call D_is_row (o.gen hB1) rfl (by decide) takes0 rfl (par_cons (pp_var 3) (par_cons (pp_var 1) (par_cons (pp_len (o.gen hB1) rfl F.b_len (PP.h (pp_var 2))) par_nil))))))))))⟩

/-! ### is_machine -/
def p_is_machine : SX := (retX (andX (callX (aCons (fV 0) aNil) F_is_wide) (b2 (b1 (b2 (fV 0) (fC (.int 1)) gIx) gLen) (fC (.int 8)) gLeI)))
abbrev F_is_machine : FX := defX 1 1 p_is_machine
theorem b_is_machine {P : Program} {w : World} {base : Heap} {K : PySem.W.Frag} {mg : Str → Option Value} {Ts : List Addr} {f : Addr} {cdv : Value} (F : Fc K mg) (D_is_wide : Df P w base ⟨K, mg, Ts⟩ "is_wide" 4 1 F_is_wide)
    (A : Around) (outer : List Env) (s : Shared) (H : Hp) (E : XK) (hr : Room 4 (A.deeper (envOfC "is_machine" (defScope (top 16)) s.heap.objs.size f cdv))) :
    ∃ t, PBk (cxOf (L2.CX P w) P w K mg base ["machine"] "is_machine" (defScope (top 16)) f cdv A outer s H E) (CfD ⟨K, mg, Ts⟩ []) (WD E) (defBody (top 16)) t p_is_machine := by
  have o : On (cxOf (L2.CX P w) P w K mg base ["machine"] "is_machine" (defScope (top 16)) f cdv A outer s H E) (CfD ⟨K, mg, Ts⟩ []) 4 := .mk' rfl rfl hr (show (["machine"] : List Str).Nodup by decide +kernel)
  have tk : Takes (cxOf (L2.CX P w) P w K mg base ["machine"] "is_machine" (defScope (top 16)) f cdv A outer s H E) (WD E) := takes_of rfl rfl rfl rfl
  have po := passes_of (X := (cxOf (L2.CX P w) P w K mg base ["machine"] "is_machine" (defScope (top 16)) f cdv A outer s H E)) rfl
  exact ⟨_, (pbk_one (st_ret (pp_and (pp_call D_is_wide o rfl (by decide) tk rfl (par_cons (pp_var 0) par_nil)) (pp_one (pp_le o (pp_len o rfl F.b_len (PP.h (pp_ix o (PP.h (pp_var 0)) pp_int))) (pp_gint o F.g_MOST_STATES))))))⟩

/-! ### check_machine -/
def p_check_machine : SX := (ifS (notT (toT (callX (aCons (fV 0) aNil) F_is_machine))) (raX (fC (.str "not a machine")) "NotMachine") nxX)
abbrev F_check_machine : FX := defX 1 1 p_check_machine
theorem b_check_machine {P : Program} {w : World} {base : Heap} {K : PySem.W.Frag} {mg : Str → Option Value} {Ts : List Addr} {f : Addr} {cdv : Value} (F : Fc K mg) (D_is_machine : Df P w base ⟨K, mg, Ts⟩ "is_machine" 5 1 F_is_machine)
    (A : Around) (outer : List Env) (s : Shared) (H : Hp) (E : XK) (hr : Room 5 (A.deeper (envOfC "check_machine" (defScope (top 19)) s.heap.objs.size f cdv))) :
    ∃ t, PBk (cxOf (L2.CX P w) P w K mg base ["machine"] "check_machine" (defScope (top 19)) f cdv A outer s H E) (CfD ⟨K, mg, Ts⟩ []) (WD E) (defBody (top 19)) t p_check_machine := by
  have o : On (cxOf (L2.CX P w) P w K mg base ["machine"] "check_machine" (defScope (top 19)) f cdv A outer s H E) (CfD ⟨K, mg, Ts⟩ []) 5 := .mk' rfl rfl hr (show (["machine"] : List Str).Nodup by decide +kernel)
  have tk : Takes (cxOf (L2.CX P w) P w K mg base ["machine"] "check_machine" (defScope (top 19)) f cdv A outer s H E) (WD E) := takes_of rfl rfl rfl rfl
  have po := passes_of (X := (cxOf (L2.CX P w) P w K mg base ["machine"] "check_machine" (defScope (top 19)) f cdv A outer s H E)) rfl
  exact ⟨_, (pbk_one (st_if (ptt_not (ptt_val (pp_call D_is_machine o rfl (by decide) tk rfl (par_cons (pp_var 0) par_nil)))) (pbk_one (st_raise o rfl tk F.x_NotMachine rfl pp_str)) pbk_nil))⟩

/-! ### letters_of -/
def p_letters_of : SX := (retX (s3 (fC (.str "aAbBcCdDeEfFgGhH")) oNone (oSome (b2 (fC (.int 2)) (b1 (b2 (fV 0) (fC (.int 1)) gIx) gLen) gMul)) gSl))
abbrev F_letters_of : FX := defX 1 1 p_letters_of
theorem b_letters_of {P : Program} {w : World} {base : Heap} {K : PySem.W.Frag} {mg : Str → Option Value} {Ts : List Addr} {f : Addr} {cdv : Value} (F : Fc K mg) 
    (A : Around) (outer : List Env) (s : Shared) (H : Hp) (E : XK) (hr : Room 0 (A.deeper (envOfC "letters_of" (defScope (top 30)) s.heap.objs.size f cdv))) :
    ∃ t, PBk (cxOf (L2.CX P w) P w K mg base ["machine"] "letters_of" (defScope (top 30)) f cdv A outer s H E) (CfD ⟨K, mg, Ts⟩ []) (WD E) (defBody (top 30)) t p_letters_of := by
  have o : On (cxOf (L2.CX P w) P w K mg base ["machine"] "letters_of" (defScope (top 30)) f cdv A outer s H E) (CfD ⟨K, mg, Ts⟩ []) 0 := .mk' rfl rfl hr (show (["machine"] : List Str).Nodup by decide +kernel)
  have tk : Takes (cxOf (L2.CX P w) P w K mg base ["machine"] "letters_of" (defScope (top 30)) f cdv A outer s H E) (WD E) := takes_of rfl rfl rfl rfl
  have po := passes_of (X := (cxOf (L2.CX P w) P w K mg base ["machine"] "letters_of" (defScope (top 30)) f cdv A outer s H E)) rfl
  exact ⟨_, (pbk_one (st_ret (pp_slice o (PP.h (pp_gstr o F.g_LETTERS_IN_ORDER)) ppo_none (ppo_some (pp_mul o pp_int (pp_len o rfl F.b_len (PP.h (pp_ix o (PP.h (pp_var 0)) pp_int))))))))⟩

/-! ### has_letters -/
def p_has_letters : SX := (seqX (asgX (callX (aCons (fV 0) aNil) F_letters_of) (bNm 2))
  (retX (alX (iA (fV 1)) [3] (bNm 3) (b2 (fV 3) (fV 2) gInD))))
abbrev F_has_letters : FX := defX 2 4 p_has_letters
theorem b_has_letters {P : Program} {w : World} {base : Heap} {K : PySem.W.Frag} {mg : Str → Option Value} {Ts : List Addr} {f : Addr} {cdv : Value} (F : Fc K mg) (D_letters_of : Df P w base ⟨K, mg, Ts⟩ "letters_of" 1 1 F_letters_of) {cc PP_ : Addr} (hP : PP_ ∈ Ts) (TB : LamX.TabB base mg cc PP_) (hcd : cdv = .ref cc)
    (A : Around) (outer : List Env) (s : Shared) (H : Hp) (E : XK) (hr : Room 1 (A.deeper (envOfC "has_letters" (defScope (top 31)) s.heap.objs.size f cdv))) :
    ∃ t, PBk (cxOf (L2.CX P w) P w K mg base ["machine", "word", "letters", "letter"] "has_letters" (defScope (top 31)) f cdv A outer s H E) (CfD ⟨K, mg, Ts⟩ []) (WD E) (defBody (top 31)) t p_has_letters := by
  have o : On (cxOf (L2.CX P w) P w K mg base ["machine", "word", "letters", "letter"] "has_letters" (defScope (top 31)) f cdv A outer s H E) (CfD ⟨K, mg, Ts⟩ []) 1 := .mk' rfl rfl hr (show (["machine", "word", "letters", "letter"] : List Str).Nodup by decide +kernel)
  have tk : Takes (cxOf (L2.CX P w) P w K mg base ["machine", "word", "letters", "letter"] "has_letters" (defScope (top 31)) f cdv A outer s H E) (WD E) := takes_of rfl rfl rfl rfl
  have po := passes_of (X := (cxOf (L2.CX P w) P w K mg base ["machine", "word", "letters", "letter"] "has_letters" (defScope (top 31)) f cdv A outer s H E)) rfl
  exact ⟨_, (pbk_cons (st_set o 2 (pp_call D_letters_of o rfl (by decide) tk rfl (par_cons (pp_var 0) par_nil)))
      (pbk_one (st_ret (pp_allG (own := [("letter", 3)]) o rfl rfl F.b_all hP TB hcd (pi_any o (pp_var 1)) (blkOk_by (by kernel_rfl)) (wp_nm (by simp)) rfl rfl (by decide +kernel) (by kernel_rfl) (show (".0" : Str) ∉ (["machine", "word", "letters", "letter"] : List Str) by decide +kernel) (fun _ _ _ _ _ => (tg_nm o.k.gen 3)) (fun _ _ _ _ _ hB1 => (pp_inD (o.gen hB1) (pp_var 3) (PP.h (pp_var 2))))))))⟩

/-! ### check_word -/
def p_check_word : SX := (seqX (dropX (callX (aCons (fV 0) aNil) F_check_machine))
  (ifS (orT (toT (b2 (b1 (fV 1) gLen) (fC (.int 60)) gGtI)) (notT (toT (callX (aCons (fV 0) (aCons (fV 1) aNil)) F_has_letters)))) (raX (fC (.str "not a word of the machine, or too long")) "NotWord") nxX))
abbrev F_check_word : FX := defX 2 2 p_check_word
theorem b_check_word {P : Program} {w : World} {base : Heap} {K : PySem.W.Frag} {mg : Str → Option Value} {Ts : List Addr} {f : Addr} {cdv : Value} (F : Fc K mg) (D_check_machine : Df P w base ⟨K, mg, Ts⟩ "check_machine" 6 1 F_check_machine) (D_has_letters : Df P w base ⟨K, mg, Ts⟩ "has_letters" 2 2 F_has_letters)
    (A : Around) (outer : List Env) (s : Shared) (H : Hp) (E : XK) (hr : Room 6 (A.deeper (envOfC "check_word" (defScope (top 32)) s.heap.objs.size f cdv))) :
    ∃ t, PBk (cxOf (L2.CX P w) P w K mg base ["machine", "word"] "check_word" (defScope (top 32)) f cdv A outer s H E) (CfD ⟨K, mg, Ts⟩ []) (WD E) (defBody (top 32)) t p_check_word := by
  have o : On (cxOf (L2.CX P w) P w K mg base ["machine", "word"] "check_word" (defScope (top 32)) f cdv A outer s H E) (CfD ⟨K, mg, Ts⟩ []) 6 := .mk' rfl rfl hr (show (["machine", "word"] : List Str).Nodup by decide +kernel)
  have tk : Takes (cxOf (L2.CX P w) P w K mg base ["machine", "word"] "check_word" (defScope (top 32)) f cdv A outer s H E) (WD E) := takes_of rfl rfl rfl rfl
  have po := passes_of (X := (cxOf (L2.CX P w) P w K mg base ["machine", "word"] "check_word" (defScope (top 32)) f cdv A outer s H E)) rfl
  exact ⟨_, (pbk_cons (st_expr (m := .rd) (pp_call D_check_machine o rfl (by decide) tk rfl (par_cons (pp_var 0) par_nil)))
      (pbk_one (st_if (PWt.tt (pwt_or (pt_gt o (pp_len o rfl F.b_len (PP.h (pp_var 1))) (pp_gint o F.g_LONGEST_WORD)) (pwt_or1 (ptt_not (ptt_val (pp_call D_has_letters o rfl (by decide) tk rfl (par_cons (pp_var 0) (par_cons (pp_var 1) par_nil)))))))) (pbk_one (st_raise o rfl tk F.x_NotWord rfl pp_str)) pbk_nil)))⟩

/-! ### check_wide -/
def p_check_wide : SX := (ifS (notT (toT (callX (aCons (fV 0) aNil) F_is_wide))) (raX (fC (.str "not a wide machine")) "NotMachine") nxX)
abbrev F_check_wide : FX := defX 1 1 p_check_wide
theorem b_check_wide {P : Program} {w : World} {base : Heap} {K : PySem.W.Frag} {mg : Str → Option Value} {Ts : List Addr} {f : Addr} {cdv : Value} (F : Fc K mg) (D_is_wide : Df P w base ⟨K, mg, Ts⟩ "is_wide" 4 1 F_is_wide)
    (A : Around) (outer : List Env) (s : Shared) (H : Hp) (E : XK) (hr : Room 4 (A.deeper (envOfC "check_wide" (defScope (top 18)) s.heap.objs.size f cdv))) :
    ∃ t, PBk (cxOf (L2.CX P w) P w K mg base ["machine"] "check_wide" (defScope (top 18)) f cdv A outer s H E) (CfD ⟨K, mg, Ts⟩ []) (WD E) (defBody (top 18)) t p_check_wide := by
  have o : On (cxOf (L2.CX P w) P w K mg base ["machine"] "check_wide" (defScope (top 18)) f cdv A outer s H E) (CfD ⟨K, mg, Ts⟩ []) 4 := .mk' rfl rfl hr (show (["machine"] : List Str).Nodup by decide +kernel)
  have tk : Takes (cxOf (L2.CX P w) P w K mg base ["machine"] "check_wide" (defScope (top 18)) f cdv A outer s H E) (WD E) := takes_of rfl rfl rfl rfl
  have po := passes_of (X := (cxOf (L2.CX P w) P w K mg base ["machine"] "check_wide" (defScope (top 18)) f cdv A outer s H E)) rfl
  exact ⟨_, (pbk_one (st_if (ptt_not (ptt_val (pp_call D_is_wide o rfl (by decide) tk rfl (par_cons (pp_var 0) par_nil)))) (pbk_one (st_raise o rfl tk F.x_NotMachine rfl pp_str)) pbk_nil))⟩

/-! ### arranged -/
def p_arranged : SX := (seqX (asgX (b2 (c1 (aCons (fC .none) aNil) gLstD) (b1 (fV 0) gLen) gRepF) (bNmF 2))
  (seqX (forS (zipY (fV 0) (fV 1)) (bTup 2 (bCons (bNm 3) (bCons (bNm 4) bNil))) (setX 2 (fV 4) (fV 3)))
  (retX (b1 (fO 2) gTupO))))
abbrev F_arranged : FX := defX 2 5 p_arranged
theorem b_arranged {P : Program} {w : World} {base : Heap} {K : PySem.W.Frag} {mg : Str → Option Value} {Ts : List Addr} {f : Addr} {cdv : Value} (F : Fc K mg) 
    (A : Around) (outer : List Env) (s : Shared) (H : Hp) (E : XK) (hr : Room 0 (A.deeper (envOfC "arranged" (defScope (top 22)) s.heap.objs.size f cdv))) :
    ∃ t, PBk (cxOf (L2.CX P w) P w K mg base ["things", "places", "made", "thing", "place"] "arranged" (defScope (top 22)) f cdv A outer s H E) (CfD ⟨K, mg, Ts⟩ [2]) (WD E) (defBody (top 22)) t p_arranged := by
  have o : On (cxOf (L2.CX P w) P w K mg base ["things", "places", "made", "thing", "place"] "arranged" (defScope (top 22)) f cdv A outer s H E) (CfD ⟨K, mg, Ts⟩ [2]) 0 := .mk' rfl rfl hr (show (["things", "places", "made", "thing", "place"] : List Str).Nodup by decide +kernel)
  have tk : Takes (cxOf (L2.CX P w) P w K mg base ["things", "places", "made", "thing", "place"] "arranged" (defScope (top 22)) f cdv A outer s H E) (WD E) := takes_of rfl rfl rfl rfl
  have po := passes_of (X := (cxOf (L2.CX P w) P w K mg base ["things", "places", "made", "thing", "place"] "arranged" (defScope (top 22)) f cdv A outer s H E)) rfl
  exact ⟨_, (pbk_cons (st_setF o 2 (pf_rep o (pf_lst (par_cons pp_non par_nil)) (pp_len o rfl F.b_len (PP.h (pp_var 0)))))
      (pbk_cons (st_for o rfl po (pi_zipY o rfl F.b_zip (pp_var 0) (pp_var 1)) (tg_tup o.k rfl (tgs_cons (tg_nm o.k 3) (tgs_cons (tg_nm o.k 4) tgs_nil))) (pbk_one (st_setitem o 2 (pp_var 4) (pp_var 3))))
      (pbk_one (st_ret (pp_tupO o rfl F.b_tuple (ph_own 2))))))⟩

/-! ### undone_row -/
def p_undone_row : SX := (seqX (asgX (lcX (enX (fV 0)) [2, 3, 4] (bTup 2 (bCons (bNm 2) (bCons (bTup 2 (bCons (bNm 3) (bCons (bNm 4) bNil))) bNil))) fYes (c1 (aCons (fV 2) (aCons (fV 4) aNil)) gTupD)) (bNm 1))
  (retX (callX (aCons (fV 1) (aCons (lcX (iA (fV 0)) [5, 3] (bTup 2 (bCons (bNm 5) (bCons (bNm 3) bNil))) fYes (fV 5)) aNil)) F_arranged)))
abbrev F_undone_row : FX := defX 1 6 p_undone_row
theorem b_undone_row {P : Program} {w : World} {base : Heap} {K : PySem.W.Frag} {mg : Str → Option Value} {Ts : List Addr} {f : Addr} {cdv : Value} (F : Fc K mg) (D_arranged : Df P w base ⟨K, mg, Ts⟩ "arranged" 1 2 F_arranged)
    (A : Around) (outer : List Env) (s : Shared) (H : Hp) (E : XK) (hr : Room 1 (A.deeper (envOfC "undone_row" (defScope (top 24)) s.heap.objs.size f cdv))) :
    ∃ t, PBk (cxOf (L2.CX P w) P w K mg base ["row", "entries", "x", "_", "after", "out"] "undone_row" (defScope (top 24)) f cdv A outer s H E) (CfD ⟨K, mg, Ts⟩ []) (WD E) (defBody (top 24)) t p_undone_row := by
  have o : On (cxOf (L2.CX P w) P w K mg base ["row", "entries", "x", "_", "after", "out"] "undone_row" (defScope (top 24)) f cdv A outer s H E) (CfD ⟨K, mg, Ts⟩ []) 1 := .mk' rfl rfl hr (show (["row", "entries", "x", "_", "after", "out"] : List Str).Nodup by decide +kernel)
  have tk : Takes (cxOf (L2.CX P w) P w K mg base ["row", "entries", "x", "_", "after", "out"] "undone_row" (defScope (top 24)) f cdv A outer s H E) (WD E) := takes_of rfl rfl rfl rfl
  have po := passes_of (X := (cxOf (L2.CX P w) P w K mg base ["row", "entries", "x", "_", "after", "out"] "undone_row" (defScope (top 24)) f cdv A outer s H E)) rfl
  exact ⟨_, (pbk_cons (st_setLc o rfl 1 (own := [("x", 2), ("_", 3), ("after", 4)]) (pi_enumX o rfl F.b_enumerate (pp_var 0)) (blkOk_by (by kernel_rfl)) (wp_tup (wp_cons (wp_nm (by simp)) (wp_cons (wp_tup (wp_cons (wp_nm (by simp)) (wp_cons (wp_nm (by simp)) wp_nil mon_nm mon_nil) mon_nm (mon_cons mon_nm mon_nil))) wp_nil (mon_tup (mon_cons mon_nm (mon_cons mon_nm mon_nil))) mon_nil) mon_nm (mon_cons (mon_tup (mon_cons mon_nm (mon_cons mon_nm mon_nil))) mon_nil))) rfl (fun _ _ _ _ _ => (tg_tup o.blk.k rfl (tgs_cons (tg_nm o.blk.k 2) (tgs_cons (tg_tup o.blk.k rfl (tgs_cons (tg_nm o.blk.k 3) (tgs_cons (tg_nm o.blk.k 4) tgs_nil))) tgs_nil)))) (fun _ _ _ _ _ => ptf_nil) (fun _ _ _ _ _ => (pp_tup (par_cons (pp_var 2) (par_cons (pp_var 4) par_nil)))) (sw_true rfl rfl rfl (by kernel_rfl)))
      (pbk_one (st_ret (pp_call D_arranged o rfl (by decide) tk rfl (par_cons (pp_var 1) (par_cons (PF.pp (pf_lc o rfl (own := [("out", 5), ("_", 3)]) (pi_any o (pp_var 0)) (blkOk_by (by kernel_rfl)) (wp_tup (wp_cons (wp_nm (by simp)) (wp_cons (wp_nm (by simp)) wp_nil mon_nm mon_nil) mon_nm (mon_cons mon_nm mon_nil))) rfl (fun _ _ _ _ _ => (tg_tup o.blk.k rfl (tgs_cons (tg_nm o.blk.k 5) (tgs_cons (tg_nm o.blk.k 3) tgs_nil)))) (fun _ _ _ _ _ => ptf_nil) (fun _ _ _ _ _ => (pp_var 5)))) par_nil))))))⟩

/-! ### undoing -/
def p_undoing : SX := (seqX (dropX (callX (aCons (fV 0) aNil) F_check_wide))
  (seqX (asgX (fV 0) (bTup 2 (bCons (bNm 1) (bCons (bNm 2) bNil))))
  (retX (c1 (aCons (fV 1) (aCons (b1 (lcX (iA (fV 2)) [3] (bNm 3) fYes (callX (aCons (fV 3) aNil) F_undone_row)) gTupO) aNil)) gTupD))))
abbrev F_undoing : FX := defX 1 4 p_undoing
theorem b_undoing {P : Program} {w : World} {base : Heap} {K : PySem.W.Frag} {mg : Str → Option Value} {Ts : List Addr} {f : Addr} {cdv : Value} (F : Fc K mg) (D_check_wide : Df P w base ⟨K, mg, Ts⟩ "check_wide" 5 1 F_check_wide) (D_undone_row : Df P w base ⟨K, mg, Ts⟩ "undone_row" 2 1 F_undone_row)
    (A : Around) (outer : List Env) (s : Shared) (H : Hp) (E : XK) (hr : Room 5 (A.deeper (envOfC "undoing" (defScope (top 23)) s.heap.objs.size f cdv))) :
    ∃ t, PBk (cxOf (L2.CX P w) P w K mg base ["machine", "k", "rows", "row"] "undoing" (defScope (top 23)) f cdv A outer s H E) (CfD ⟨K, mg, Ts⟩ []) (WD E) (defBody (top 23)) t p_undoing := by
  have o : On (cxOf (L2.CX P w) P w K mg base ["machine", "k", "rows", "row"] "undoing" (defScope (top 23)) f cdv A outer s H E) (CfD ⟨K, mg, Ts⟩ []) 5 := .mk' rfl rfl hr (show (["machine", "k", "rows", "row"] : List Str).Nodup by decide +kernel)
  have tk : Takes (cxOf (L2.CX P w) P w K mg base ["machine", "k", "rows", "row"] "undoing" (defScope (top 23)) f cdv A outer s H E) (WD E) := takes_of rfl rfl rfl rfl
  have po := passes_of (X := (cxOf (L2.CX P w) P w K mg base ["machine", "k", "rows", "row"] "undoing" (defScope (top 23)) f cdv A outer s H E)) rfl
  exact ⟨_, (pbk_cons (st_expr (m := .rd) (pp_call D_check_wide o rfl (by decide) tk rfl (par_cons (pp_var 0) par_nil)))
      (pbk_cons (st_asg (pp_var 0) (tg_tup o.k rfl (tgs_cons (tg_nm o.k 1) (tgs_cons (tg_nm o.k 2) tgs_nil))))
      (pbk_one (st_ret (pp_tup (par_cons (pp_var 1) (par_cons (pp_tupO o rfl F.b_tuple (PP.h (PF.pp (pf_lc o rfl (own := [("row", 3)]) (pi_any o (pp_var 2)) (blkOk_by (by kernel_rfl)) (wp_nm (by simp)) rfl (fun _ _ _ _ _ => (tg_nm o.blk.k 3)) (fun _ _ _ _ _ => ptf_nil) (fun _ _ _ _ _ => (pp_call D_undone_row o.blk rfl (by decide) takes0 rfl (par_cons (pp_var 3) par_nil))))))) par_nil)))))))⟩

/-! ### steps_of -/
def p_steps_of : SX := (seqX (asgX (fC (.dict [])) (bNmF 1))
  (seqX (forS (iA (c1 (aCons (c1 (aCons (fV 0) (aCons (fC (.str "abcdefgh")) aNil)) gTupD) (aCons (c1 (aCons (callX (aCons (fV 0) aNil) F_undoing) (aCons (fC (.str "ABCDEFGH")) aNil)) gTupD) aNil)) gTupD)) (bTup 2 (bCons (bNm 2) (bCons (bNm 3) bNil))) (forS (toI (b2 (fV 3) (b2 (fV 2) (fC (.int 1)) gIx) gZip2)) (bTup 2 (bCons (bNm 4) (bCons (bNm 5) bNil))) (dputX 1 (fV 4) (b1 (lcX (iA (fV 5)) [6, 7] (bTup 2 (bCons (bNm 6) (bCons (bNm 7) bNil))) fYes (c1 (aCons (fV 6) (aCons (b2 (fV 3) (fV 7) gIx) aNil)) gTupD)) gTupO))))
  (retX (fV 1))))
abbrev F_steps_of : FX := defX 1 8 p_steps_of
theorem b_steps_of {P : Program} {w : World} {base : Heap} {K : PySem.W.Frag} {mg : Str → Option Value} {Ts : List Addr} {f : Addr} {cdv : Value} (F : Fc K mg) (D_undoing : Df P w base ⟨K, mg, Ts⟩ "undoing" 6 1 F_undoing)
    (A : Around) (outer : List Env) (s : Shared) (H : Hp) (E : XK) (hr : Room 6 (A.deeper (envOfC "steps_of" (defScope (top 34)) s.heap.objs.size f cdv))) :
    ∃ t, PBk (cxOf (L2.CX P w) P w K mg base ["machine", "steps", "whole", "letters", "letter", "row", "out", "after"] "steps_of" (defScope (top 34)) f cdv A outer s H E) (CfD ⟨K, mg, Ts⟩ [1]) (WD E) (defBody (top 34)) t p_steps_of := by
  have o : On (cxOf (L2.CX P w) P w K mg base ["machine", "steps", "whole", "letters", "letter", "row", "out", "after"] "steps_of" (defScope (top 34)) f cdv A outer s H E) (CfD ⟨K, mg, Ts⟩ [1]) 6 := .mk' rfl rfl hr (show (["machine", "steps", "whole", "letters", "letter", "row", "out", "after"] : List Str).Nodup by decide +kernel)
  have tk : Takes (cxOf (L2.CX P w) P w K mg base ["machine", "steps", "whole", "letters", "letter", "row", "out", "after"] "steps_of" (defScope (top 34)) f cdv A outer s H E) (WD E) := takes_of rfl rfl rfl rfl
  have po := passes_of (X := (cxOf (L2.CX P w) P w K mg base ["machine", "steps", "whole", "letters", "letter", "row", "out", "after"] "steps_of" (defScope (top 34)) f cdv A outer s H E)) rfl
  exact ⟨_, (pbk_cons (st_setF o 1 pf_dict0)
      (pbk_cons (st_for o rfl po (pi_any o (pp_tup (par_cons (pp_tup (par_cons (pp_var 0) (par_cons (pp_gstr o F.g_SMALL_LETTERS) par_nil))) (par_cons (pp_tup (par_cons (pp_call D_undoing o rfl (by decide) tk rfl (par_cons (pp_var 0) par_nil)) (par_cons (pp_gstr o F.g_LARGE_LETTERS) par_nil))) par_nil)))) (tg_tup o.k rfl (tgs_cons (tg_nm o.k 2) (tgs_cons (tg_nm o.k 3) tgs_nil))) (pbk_one (st_for o rfl po (pi_zipT o rfl F.b_zip (pp_var 3) (pp_ix o (PP.h (pp_var 2)) pp_int)) (tg_tup o.k rfl (tgs_cons (tg_nm o.k 4) (tgs_cons (tg_nm o.k 5) tgs_nil))) (pbk_one (st_dput o 1 (pp_var 4) (pp_tupO o rfl F.b_tuple (PP.h (PF.pp (pf_lc o rfl (own := [("out", 6), ("after", 7)]) (pi_any o (pp_var 5)) (blkOk_by (by kernel_rfl)) (wp_tup (wp_cons (wp_nm (by simp)) (wp_cons (wp_nm (by simp)) wp_nil mon_nm mon_nil) mon_nm (mon_cons mon_nm mon_nil))) rfl (fun _ _ _ _ _ => (tg_tup o.blk.k rfl (tgs_cons (tg_nm o.blk.k 6) (tgs_cons (tg_nm o.blk.k 7) tgs_nil)))) (fun _ _ _ _ _ => ptf_nil) (fun _ _ _ _ _ => (pp_tup (par_cons (pp_var 6) (par_cons (pp_ix o.blk (PP.h (pp_var 3)) (pp_var 7)) par_nil)))))))))))))
      (pbk_one (st_ret (pp_own 1)))))⟩

/-! ### letter_turns -/
def p_letter_turns : SX := (seqX (asgX (callX (aCons (fV 0) aNil) F_steps_of) (bNm 2))
  (seqX (asgX (dcX (fKeys 2) [4] (bNm 4) fYes (fV 4) (c1 (aCons (fC (.int 0)) aNil) gTupD)) (bNm 3))
  (seqX (asgX (fC (.int 1)) (bNm 5))
  (seqX (forS (iR1 (fV 1)) (bNm 6) (seqX (asgX (fC (.dict [])) (bNmF 7))
  (seqX (forIX 2 (bTup 2 (bCons (bNm 4) (bCons (bNm 8) bNil))) (dputX 7 (fV 4) (b1 (lc2X (iA (fV 8)) [10, 11, 9] (bTup 2 (bCons (bNm 10) (bCons (bNm 11) bNil))) fYes (iA (b2 (fV 3) (fV 11) gDGet)) [9] (bNm 9) fYes (b2 (b2 (fV 10) (fV 5) gMul) (fV 9) gAdd)) gTupO)))
  (seqX (giveX 7 3)
  (augM 5 (b2 (fV 0) (fC (.int 0)) gIx))))))
  (retX (fV 3))))))
abbrev F_letter_turns : FX := defX 2 12 p_letter_turns
theorem b_letter_turns {P : Program} {w : World} {base : Heap} {K : PySem.W.Frag} {mg : Str → Option Value} {Ts : List Addr} {f : Addr} {cdv : Value} (F : Fc K mg) (D_steps_of : Df P w base ⟨K, mg, Ts⟩ "steps_of" 7 1 F_steps_of)
    (A : Around) (outer : List Env) (s : Shared) (H : Hp) (E : XK) (hr : Room 7 (A.deeper (envOfC "letter_turns" (defScope (top 37)) s.heap.objs.size f cdv))) :
    ∃ t, PBk (cxOf (L2.CX P w) P w K mg base ["machine", "level", "steps", "turns", "letter", "count", "_", "further", "row", "y", "out", "after"] "letter_turns" (defScope (top 37)) f cdv A outer s H E) (CfD ⟨K, mg, Ts⟩ [7]) (WD E) (defBody (top 37)) t p_letter_turns := by
  have o : On (cxOf (L2.CX P w) P w K mg base ["machine", "level", "steps", "turns", "letter", "count", "_", "further", "row", "y", "out", "after"] "letter_turns" (defScope (top 37)) f cdv A outer s H E) (CfD ⟨K, mg, Ts⟩ [7]) 7 := .mk' rfl rfl hr (show (["machine", "level", "steps", "turns", "letter", "count", "_", "further", "row", "y", "out", "after"] : List Str).Nodup by decide +kernel)
  have tk : Takes (cxOf (L2.CX P w) P w K mg base ["machine", "level", "steps", "turns", "letter", "count", "_", "further", "row", "y", "out", "after"] "letter_turns" (defScope (top 37)) f cdv A outer s H E) (WD E) := takes_of rfl rfl rfl rfl
  have po := passes_of (X := (cxOf (L2.CX P w) P w K mg base ["machine", "level", "steps", "turns", "letter", "count", "_", "further", "row", "y", "out", "after"] "letter_turns" (defScope (top 37)) f cdv A outer s H E)) rfl
  exact ⟨_, (pbk_cons (st_set o 2 (pp_call D_steps_of o rfl (by decide) tk rfl (par_cons (pp_var 0) par_nil)))
      (pbk_cons (st_set o 3 (PF.pp (pf_dcK o rfl (own := [("letter", 4)]) 2 rfl rfl (blkOk_by (by kernel_rfl)) (wp_nm (by simp)) rfl (fun _ _ _ _ _ => (tg_nm o.blk.k 4)) (fun _ _ _ _ _ => ptf_nil) (fun _ _ _ _ _ => (pp_var 4)) (fun _ _ _ _ _ => (pp_tup (par_cons pp_int par_nil))))))
      (pbk_cons (st_set o 5 pp_int)
      (pbk_cons (st_for o rfl po (pi_r1 o rfl F.b_range (pp_var 1)) (tg_nm o.k 6) (pbk_cons (st_setF o 7 pf_dict0)
      (pbk_cons (st_forI o rfl po 2 (tg_tup o.k rfl (tgs_cons (tg_nm o.k 4) (tgs_cons (tg_nm o.k 8) tgs_nil))) (pbk_one (st_dput o 7 (pp_var 4) (pp_tupO o rfl F.b_tuple (PP.h (PF.pp (pf_lc2 o rfl (own := [("out", 10), ("after", 11), ("y", 9)]) (vs1 := [9]) (pi_any o (pp_var 8)) (blkOk_by (by kernel_rfl)) (wp_tup (wp_cons (wp_nm (by simp)) (wp_cons (wp_nm (by simp)) wp_nil mon_nm mon_nil) mon_nm (mon_cons mon_nm mon_nil))) (wp_nm (by simp)) rfl rfl (fun _ _ _ _ _ => (tg_tup o.blk.k rfl (tgs_cons (tg_nm o.blk.k 10) (tgs_cons (tg_nm o.blk.k 11) tgs_nil)))) (fun _ _ _ _ _ => ptf_nil) (fun _ _ _ _ _ => (pi_any o.blk (pp_dget o.blk (pp_var 3) (pp_var 11)))) (fun _ _ _ _ _ => (tg_nm o.blk.k 9)) (fun _ _ _ _ _ => ptf_nil) (fun _ _ _ _ _ => (pp_add o.blk (pp_mul o.blk (pp_var 10) (pp_var 5)) (pp_var 9))))))))))
      (pbk_cons (st_give o 7 3)
      (pbk_one (st_augM o 5 (pp_ix o (PP.h (pp_var 0)) pp_int)))))))
      (pbk_one (st_ret (pp_var 3)))))))⟩

/-! ### followed -/
def p_followed : SX := (retX (b1 (lcX (iA (fV 0)) [2] (bNm 2) fYes (b2 (fV 1) (fV 2) gIx)) gTupO))
abbrev F_followed : FX := defX 2 3 p_followed
theorem b_followed {P : Program} {w : World} {base : Heap} {K : PySem.W.Frag} {mg : Str → Option Value} {Ts : List Addr} {f : Addr} {cdv : Value} (F : Fc K mg) 
    (A : Around) (outer : List Env) (s : Shared) (H : Hp) (E : XK) (hr : Room 0 (A.deeper (envOfC "followed" (defScope (top 39)) s.heap.objs.size f cdv))) :
    ∃ t, PBk (cxOf (L2.CX P w) P w K mg base ["one", "other", "x"] "followed" (defScope (top 39)) f cdv A outer s H E) (CfD ⟨K, mg, Ts⟩ []) (WD E) (defBody (top 39)) t p_followed := by
  have o : On (cxOf (L2.CX P w) P w K mg base ["one", "other", "x"] "followed" (defScope (top 39)) f cdv A outer s H E) (CfD ⟨K, mg, Ts⟩ []) 0 := .mk' rfl rfl hr (show (["one", "other", "x"] : List Str).Nodup by decide +kernel)
  have tk : Takes (cxOf (L2.CX P w) P w K mg base ["one", "other", "x"] "followed" (defScope (top 39)) f cdv A outer s H E) (WD E) := takes_of rfl rfl rfl rfl
  have po := passes_of (X := (cxOf (L2.CX P w) P w K mg base ["one", "other", "x"] "followed" (defScope (top 39)) f cdv A outer s H E)) rfl
  exact ⟨_, (pbk_one (st_ret (pp_tupO o rfl F.b_tuple (PP.h (PF.pp (pf_lc o rfl (own := [("x", 2)]) (pi_any o (pp_var 0)) (blkOk_by (by kernel_rfl)) (wp_nm (by simp)) rfl (fun _ _ _ _ _ => (tg_nm o.blk.k 2)) (fun _ _ _ _ _ => ptf_nil) (fun _ _ _ _ _ => (pp_ix o.blk (PP.h (pp_var 1)) (pp_var 2)))))))))⟩

/-! ### turned -/
def p_turned : SX := (seqX (asgX (b1 (b1 (b2 (fV 0) (fC (.str "a")) gDGet) gLen) gRg1T) (bNm 2))
  (seqX (forS (iA (fV 1)) (bNm 3) (asgX (callX (aCons (fV 2) (aCons (b2 (fV 0) (fV 3) gDGet) aNil)) F_followed) (bNm 2)))
  (retX (fV 2))))
abbrev F_turned : FX := defX 2 4 p_turned
theorem b_turned {P : Program} {w : World} {base : Heap} {K : PySem.W.Frag} {mg : Str → Option Value} {Ts : List Addr} {f : Addr} {cdv : Value} (F : Fc K mg) (D_followed : Df P w base ⟨K, mg, Ts⟩ "followed" 1 2 F_followed)
    (A : Around) (outer : List Env) (s : Shared) (H : Hp) (E : XK) (hr : Room 1 (A.deeper (envOfC "turned" (defScope (top 38)) s.heap.objs.size f cdv))) :
    ∃ t, PBk (cxOf (L2.CX P w) P w K mg base ["turns", "word", "numbers", "letter"] "turned" (defScope (top 38)) f cdv A outer s H E) (CfD ⟨K, mg, Ts⟩ []) (WD E) (defBody (top 38)) t p_turned := by
  have o : On (cxOf (L2.CX P w) P w K mg base ["turns", "word", "numbers", "letter"] "turned" (defScope (top 38)) f cdv A outer s H E) (CfD ⟨K, mg, Ts⟩ []) 1 := .mk' rfl rfl hr (show (["turns", "word", "numbers", "letter"] : List Str).Nodup by decide +kernel)
  have tk : Takes (cxOf (L2.CX P w) P w K mg base ["turns", "word", "numbers", "letter"] "turned" (defScope (top 38)) f cdv A outer s H E) (WD E) := takes_of rfl rfl rfl rfl
  have po := passes_of (X := (cxOf (L2.CX P w) P w K mg base ["turns", "word", "numbers", "letter"] "turned" (defScope (top 38)) f cdv A outer s H E)) rfl
  exact ⟨_, (pbk_cons (st_set o 2 (pp_tupRg1 o rfl rfl F.b_tuple rfl F.b_range (pp_len o rfl F.b_len (PP.h (pp_dget o (pp_var 0) pp_str)))))
      (pbk_cons (st_for o rfl po (pi_any o (pp_var 1)) (tg_nm o.k 3) (pbk_one (st_set o 2 (pp_call D_followed o rfl (by decide) tk rfl (par_cons (pp_var 2) (par_cons (pp_dget o (pp_var 0) (pp_var 3)) par_nil))))))
      (pbk_one (st_ret (pp_var 2)))))⟩

/-! ### turns_of -/
def p_turns_of : SX := (seqX (asgX (callX (aCons (fV 0) (aCons (fV 2) aNil)) F_letter_turns) (bNm 3))
  (retX (lcX (iA (fV 1)) [4] (bNm 4) fYes (callX (aCons (fV 3) (aCons (fV 4) aNil)) F_turned))))
abbrev F_turns_of : FX := defX 3 5 p_turns_of
theorem b_turns_of {P : Program} {w : World} {base : Heap} {K : PySem.W.Frag} {mg : Str → Option Value} {Ts : List Addr} {f : Addr} {cdv : Value} (F : Fc K mg) (D_letter_turns : Df P w base ⟨K, mg, Ts⟩ "letter_turns" 8 2 F_letter_turns) (D_turned : Df P w base ⟨K, mg, Ts⟩ "turned" 2 2 F_turned)
    (A : Around) (outer : List Env) (s : Shared) (H : Hp) (E : XK) (hr : Room 8 (A.deeper (envOfC "turns_of" (defScope (top 41)) s.heap.objs.size f cdv))) :
    ∃ t, PBk (cxOf (L2.CX P w) P w K mg base ["machine", "words", "level", "turns", "word"] "turns_of" (defScope (top 41)) f cdv A outer s H E) (CfD ⟨K, mg, Ts⟩ []) (WD E) (defBody (top 41)) t p_turns_of := by
  have o : On (cxOf (L2.CX P w) P w K mg base ["machine", "words", "level", "turns", "word"] "turns_of" (defScope (top 41)) f cdv A outer s H E) (CfD ⟨K, mg, Ts⟩ []) 8 := .mk' rfl rfl hr (show (["machine", "words", "level", "turns", "word"] : List Str).Nodup by decide +kernel)
  have tk : Takes (cxOf (L2.CX P w) P w K mg base ["machine", "words", "level", "turns", "word"] "turns_of" (defScope (top 41)) f cdv A outer s H E) (WD E) := takes_of rfl rfl rfl rfl
  have po := passes_of (X := (cxOf (L2.CX P w) P w K mg base ["machine", "words", "level", "turns", "word"] "turns_of" (defScope (top 41)) f cdv A outer s H E)) rfl
  exact ⟨_, (pbk_cons (st_set o 3 (pp_call D_letter_turns o rfl (by decide) tk rfl (par_cons (pp_var 0) (par_cons (pp_var 2) par_nil))))
      (pbk_one (st_ret (PF.pp (pf_lc o rfl (own := [("word", 4)]) (pi_any o (pp_var 1)) (blkOk_by (by kernel_rfl)) (wp_nm (by simp)) rfl (fun _ _ _ _ _ => (tg_nm o.blk.k 4)) (fun _ _ _ _ _ => ptf_nil) (fun _ _ _ _ _ => (pp_call D_turned o.blk rfl (by decide) takes0 rfl (par_cons (pp_var 3) (par_cons (pp_var 4) par_nil)))))))))⟩

/-! ### level_graph -/
def p_level_graph : SX := (seqX (dropX (callX (aCons (fV 0) aNil) F_check_machine))
  (seqX (forS (iA (fV 1)) (bNm 3) (dropX (callX (aCons (fV 0) (aCons (fV 3) aNil)) F_check_word)))
  (seqX (ifS (orT (notT (toT (chainX (fC (.int 1)) (b1 (fV 1) gLen) (fC (.int 6)) gLeI gLeI))) (toT (b2 (fV 2) (fC (.int 0)) gLtI))) (raX (fC (.str "not a number of rows, or not a level")) "BadNumber") nxX)
  (seqX (ifS (orT (toT (b2 (fV 2) (fC (.int 10)) gGtI)) (toT (b2 (callX (aCons (b2 (fV 0) (fC (.int 0)) gIx) (aCons (fV 2) aNil)) F_string_count) (fC (.int 1024)) gGtI))) (raX (fC (.str "the level has too many strings")) "TooLarge") nxX)
  (retX (b1 (callX (aCons (fV 0) (aCons (fV 1) (aCons (fV 2) aNil))) F_turns_of) gTupO))))))
abbrev F_level_graph : FX := defX 3 4 p_level_graph
theorem b_level_graph {P : Program} {w : World} {base : Heap} {K : PySem.W.Frag} {mg : Str → Option Value} {Ts : List Addr} {f : Addr} {cdv : Value} (F : Fc K mg) (D_check_machine : Df P w base ⟨K, mg, Ts⟩ "check_machine" 6 1 F_check_machine) (D_check_word : Df P w base ⟨K, mg, Ts⟩ "check_word" 7 2 F_check_word) (D_string_count : Df P w base ⟨K, mg, Ts⟩ "string_count" 1 2 F_string_count) (D_turns_of : Df P w base ⟨K, mg, Ts⟩ "turns_of" 9 3 F_turns_of)
    (A : Around) (outer : List Env) (s : Shared) (H : Hp) (E : XK) (hr : Room 9 (A.deeper (envOfC "level_graph" (defScope (top 47)) s.heap.objs.size f cdv))) :
    ∃ t, PBk (cxOf (L2.CX P w) P w K mg base ["machine", "words", "n", "word"] "level_graph" (defScope (top 47)) f cdv A outer s H E) (CfD ⟨K, mg, Ts⟩ []) (WD E) (defBody (top 47)) t p_level_graph := by
  have o : On (cxOf (L2.CX P w) P w K mg base ["machine", "words", "n", "word"] "level_graph" (defScope (top 47)) f cdv A outer s H E) (CfD ⟨K, mg, Ts⟩ []) 9 := .mk' rfl rfl hr (show (["machine", "words", "n", "word"] : List Str).Nodup by decide +kernel)
  have tk : Takes (cxOf (L2.CX P w) P w K mg base ["machine", "words", "n", "word"] "level_graph" (defScope (top 47)) f cdv A outer s H E) (WD E) := takes_of rfl rfl rfl rfl
  have po := passes_of (X := (cxOf (L2.CX P w) P w K mg base ["machine", "words", "n", "word"] "level_graph" (defScope (top 47)) f cdv A outer s H E)) rfl
  exact ⟨_, (pbk_cons (st_expr (m := .rd) (pp_call D_check_machine o rfl (by decide) tk rfl (par_cons (pp_var 0) par_nil)))
      (pbk_cons (st_for o rfl po (pi_any o (pp_var 1)) (tg_nm o.k 3) (pbk_one (st_expr (m := .rd) (pp_call D_check_word o rfl (by decide) tk rfl (par_cons (pp_var 0) (par_cons (pp_var 3) par_nil))))))
      (pbk_cons (st_if (PWt.tt (pwt_or (ptt_not (pt_lele o pp_int (pp_len o rfl F.b_len (PP.h (pp_var 1))) (pp_gint o F.g_MOST_ROWS))) (pwt_or1 (pt_lt o (pp_var 2) pp_int)))) (pbk_one (st_raise o rfl tk F.x_BadNumber rfl pp_str)) pbk_nil)
      (pbk_cons (st_if (PWt.tt (pwt_or (pt_gt o (pp_var 2) (pp_gint o F.g_GREATEST_LEVEL)) (pwt_or1 (pt_gt o (pp_call D_string_count o rfl (by decide) tk rfl (par_cons (pp_ix o (PP.h (pp_var 0)) pp_int) (par_cons (pp_var 2) par_nil))) (pp_gint o F.g_MOST_NUMBERS))))) (pbk_one (st_raise o rfl tk F.x_TooLarge rfl pp_str)) pbk_nil)
      (pbk_one (st_ret (pp_tupO o rfl F.b_tuple (PP.h (pp_call D_turns_of o rfl (by decide) tk rfl (par_cons (pp_var 0) (par_cons (pp_var 1) (par_cons (pp_var 2) par_nil))))))))))))⟩

/-! ### _law_told -/
def p__law_told : SX := (tryM (retX (callX (aCons (fV 0) (aCons (fV 1) (aCons (fV 2) aNil))) F_level_graph)) ((l_m_NotMachine, (retX (fC (.str "machine")))) :: ((l_m_NotWord, (retX (fC (.str "word")))) :: ((l_m_BadNumber, (retX (fC (.str "number")))) :: ((l_m_TooLarge, (retX (fC (.str "large")))) :: [])))))
abbrev F__law_told : FX := defX 3 3 p__law_told
theorem b__law_told {P : Program} {w : World} {base : Heap} {K : PySem.W.Frag} {mg : Str → Option Value} {Ts : List Addr} {f : Addr} {cdv : Value} (F : Fc K mg) (D_level_graph : Df P w base ⟨K, mg, Ts⟩ "level_graph" 10 3 F_level_graph)
    (A : Around) (outer : List Env) (s : Shared) (H : Hp) (E : XK) (hr : Room 10 (A.deeper (envOfC "_law_told" (defScope (top 61)) s.heap.objs.size f cdv))) :
    ∃ t, PBk (cxOf (L2.CX P w) P w K mg base ["machine", "words", "n"] "_law_told" (defScope (top 61)) f cdv A outer s H E) (CfD ⟨K, mg, Ts⟩ []) (WD E) (defBody (top 61)) t p__law_told := by
  have o : On (cxOf (L2.CX P w) P w K mg base ["machine", "words", "n"] "_law_told" (defScope (top 61)) f cdv A outer s H E) (CfD ⟨K, mg, Ts⟩ []) 10 := .mk' rfl rfl hr (show (["machine", "words", "n"] : List Str).Nodup by decide +kernel)
  have tk : Takes (cxOf (L2.CX P w) P w K mg base ["machine", "words", "n"] "_law_told" (defScope (top 61)) f cdv A outer s H E) (WD E) := takes_of rfl rfl rfl rfl
  have po := passes_of (X := (cxOf (L2.CX P w) P w K mg base ["machine", "words", "n"] "_law_told" (defScope (top 61)) f cdv A outer s H E)) rfl
  exact ⟨_, (pbk_one (st_try_many o rfl rfl tk (fun W pn xe tk po => (pbk_one (st_ret (pp_call D_level_graph o.tr rfl (by decide) tk rfl (par_cons (pp_var 0) (par_cons (pp_var 1) (par_cons (pp_var 2) par_nil))))))) (.cons F.x_NotMachine rfl (by decide) F.m_NotMachine (fun a oe cls d pn hz hf => (pbk_one (st_ret pp_str))) (.cons F.x_NotWord rfl (by decide) F.m_NotWord (fun a oe cls d pn hz hf => (pbk_one (st_ret pp_str))) (.cons F.x_BadNumber rfl (by decide) F.m_BadNumber (fun a oe cls d pn hz hf => (pbk_one (st_ret pp_str))) (.cons F.x_TooLarge rfl (by decide) F.m_TooLarge (fun a oe cls d pn hz hf => (pbk_one (st_ret pp_str))) .nil))))))⟩

/-! ### _law_word -/
def p__law_word : SX := (seqX (asgX (callX (aCons (fV 0) (aCons (b2 (fV 2) (fC (.int 1)) gAdd) (aCons (fC (.int 997)) aNil))) F__law_values) (bNm 3))
  (seqX (asgX (s3 (fC (.str "aAbBcCdDeEfFgGhH")) oNone (oSome (b2 (fC (.int 2)) (fV 1) gMul)) gSl) (bNm 4))
  (retX (b2s (fC (.str "")) (lcX (iA (s3 (fV 3) (oSome (fC (.int 1))) (oSome (b2 (fC (.int 1)) (b2 (b2 (fV 3) (fC (.int 0)) gIx) (b2 (fV 2) (fC (.int 1)) gAdd) gMod) gAdd)) gSl)) [5] (bNm 5) fYes (b2 (fV 4) (b2 (fV 5) (b1 (fV 4) gLen) gMod) gIx)) gJoin))))
abbrev F__law_word : FX := defX 3 6 p__law_word
theorem b__law_word {P : Program} {w : World} {base : Heap} {K : PySem.W.Frag} {mg : Str → Option Value} {Ts : List Addr} {f : Addr} {cdv : Value} (F : Fc K mg) (D__law_values : Df P w base ⟨K, mg, Ts⟩ "_law_values" 1 3 F__law_values)
    (A : Around) (outer : List Env) (s : Shared) (H : Hp) (E : XK) (hr : Room 1 (A.deeper (envOfC "_law_word" (defScope (top 57)) s.heap.objs.size f cdv))) :
    ∃ t, PBk (cxOf (L2.CX P w) P w K mg base ["cell", "n", "most", "values", "letters", "value"] "_law_word" (defScope (top 57)) f cdv A outer s H E) (CfD ⟨K, mg, Ts⟩ []) (WD E) (defBody (top 57)) t p__law_word := by
  have o : On (cxOf (L2.CX P w) P w K mg base ["cell", "n", "most", "values", "letters", "value"] "_law_word" (defScope (top 57)) f cdv A outer s H E) (CfD ⟨K, mg, Ts⟩ []) 1 := .mk' rfl rfl hr (show (["cell", "n", "most", "values", "letters", "value"] : List Str).Nodup by decide +kernel)
  have tk : Takes (cxOf (L2.CX P w) P w K mg base ["cell", "n", "most", "values", "letters", "value"] "_law_word" (defScope (top 57)) f cdv A outer s H E) (WD E) := takes_of rfl rfl rfl rfl
  have po := passes_of (X := (cxOf (L2.CX P w) P w K mg base ["cell", "n", "most", "values", "letters", "value"] "_law_word" (defScope (top 57)) f cdv A outer s H E)) rfl
  exact ⟨_, (pbk_cons (st_set o 3 (pp_call D__law_values o rfl (by decide) tk rfl (par_cons (pp_var 0) (par_cons (pp_add o (pp_var 2) pp_int) (par_cons pp_int par_nil)))))
      (pbk_cons (st_set o 4 (pp_slice o (PP.h pp_str) ppo_none (ppo_some (pp_mul o pp_int (pp_var 1)))))
      (pbk_one (st_ret (pp_join o pp_str (PP.h (PF.pp (pf_lc o rfl (own := [("value", 5)]) (pi_any o (pp_slice o (PP.h (pp_var 3)) (ppo_some pp_int) (ppo_some (pp_add o pp_int (pp_mod o (pp_ix o (PP.h (pp_var 3)) pp_int) (pp_add o (pp_var 2) pp_int)))))) (blkOk_by (by kernel_rfl)) (wp_nm (by simp)) rfl (fun _ _ _ _ _ => (tg_nm o.blk.k 5)) (fun _ _ _ _ _ => ptf_nil) (fun _ _ _ _ _ => (pp_ix o.blk (PP.h (pp_var 4)) (pp_mod o.blk (pp_var 5) (pp_len o.blk rfl F.b_len (PP.h (pp_var 4))))))))))))))⟩

/-! ### is_graph -/
def p_is_graph : SX := (seqX (ifS (orT (notT (toT (chainX (fC (.int 1)) (b1 (fV 0) gLen) (fC (.int 6)) gLeI gLeI))) (notT (toT (chainX (fC (.int 1)) (b1 (b2 (fV 0) (fC (.int 0)) gIx) gLen) (fC (.int 1024)) gLeI gLeI)))) (retX (fC (.bool false))) nxX)
  (seqX (asgX (b1 (b1 (b2 (fV 0) (fC (.int 0)) gIx) gLen) gRg1L) (bNm 1))
  (retX (alX (iA (fV 0)) [2] (bNm 2) (b2 (b1 (fV 2) gSortP) (fV 1) gEq)))))
abbrev F_is_graph : FX := defX 1 3 p_is_graph
theorem b_is_graph {P : Program} {w : World} {base : Heap} {K : PySem.W.Frag} {mg : Str → Option Value} {Ts : List Addr} {f : Addr} {cdv : Value} (F : Fc K mg)  {cc PP_ : Addr} (hP : PP_ ∈ Ts) (TB : LamX.TabB base mg cc PP_) (hcd : cdv = .ref cc)
    (A : Around) (outer : List Env) (s : Shared) (H : Hp) (E : XK) (hr : Room 1 (A.deeper (envOfC "is_graph" (defScope (top 46)) s.heap.objs.size f cdv))) :
    ∃ t, PBk (cxOf (L2.CX P w) P w K mg base ["graph", "numbers", "row"] "is_graph" (defScope (top 46)) f cdv A outer s H E) (CfD ⟨K, mg, Ts⟩ []) (WD E) (defBody (top 46)) t p_is_graph := by
  have o : On (cxOf (L2.CX P w) P w K mg base ["graph", "numbers", "row"] "is_graph" (defScope (top 46)) f cdv A outer s H E) (CfD ⟨K, mg, Ts⟩ []) 1 := .mk' rfl rfl hr (show (["graph", "numbers", "row"] : List Str).Nodup by decide +kernel)
  have tk : Takes (cxOf (L2.CX P w) P w K mg base ["graph", "numbers", "row"] "is_graph" (defScope (top 46)) f cdv A outer s H E) (WD E) := takes_of rfl rfl rfl rfl
  have po := passes_of (X := (cxOf (L2.CX P w) P w K mg base ["graph", "numbers", "row"] "is_graph" (defScope (top 46)) f cdv A outer s H E)) rfl
  exact ⟨_, (pbk_cons (st_if (PWt.tt (pwt_or (ptt_not (pt_lele o pp_int (pp_len o rfl F.b_len (PP.h (pp_var 0))) (pp_gint o F.g_MOST_ROWS))) (pwt_or1 (ptt_not (pt_lele o pp_int (pp_len o rfl F.b_len (PP.h (pp_ix o (PP.h (pp_var 0)) pp_int))) (pp_gint o F.g_MOST_NUMBERS)))))) (pbk_one (st_ret pp_bl)) pbk_nil)
      (pbk_cons (st_set o 1 (PF.pp (pf_listRg1 o rfl rfl F.b_list rfl F.b_range (pp_len o rfl F.b_len (PP.h (pp_ix o (PP.h (pp_var 0)) pp_int))))))
      (pbk_one (st_ret (pp_allG (own := [("row", 2)]) o rfl rfl F.b_all hP TB hcd (pi_any o (pp_var 0)) (blkOk_by (by kernel_rfl)) (wp_nm (by simp)) rfl rfl (by decide +kernel) (by kernel_rfl) (show (".0" : Str) ∉ (["graph", "numbers", "row"] : List Str) by decide +kernel) (fun _ _ _ _ _ => (tg_nm o.k.gen 2)) (fun _ _ _ _ _ hB1 => (pp_eq (o.gen hB1) (PF.pp (pf_sortP (o.gen hB1) rfl F.b_sorted (PP.h (pp_var 2)))) (pp_var 1))))))))⟩

/-! ### law -/
def p_law : SX := (seqX (asgX (b2 (fC (.int 2)) (b2 (callX (aCons (fV 0) (aCons (fC (.int 0)) aNil)) F__law_cell) (fC (.int 2)) gMod) gAdd) (bNm 1))
  (seqX (asgX (b2 (fC (.int 1)) (b2 (b2 (callX (aCons (fV 0) (aCons (fC (.int 0)) aNil)) F__law_cell) (fC (.int 2)) gDiv) (fC (.int 4)) gMod) gAdd) (bNm 2))
  (seqX (asgX (callX (aCons (callX (aCons (fV 0) (aCons (fC (.int 1)) aNil)) F__law_cell) (aCons (callX (aCons (fV 0) (aCons (fC (.int 2)) aNil)) F__law_cell) (aCons (fV 1) (aCons (fV 2) aNil)))) F__law_machine) (bNm 3))
  (seqX (asgX (lcX (iR1 (b2 (fC (.int 1)) (b2 (callX (aCons (fV 0) (aCons (fC (.int 3)) aNil)) F__law_cell) (fC (.int 3)) gMod) gAdd)) [5] (bNm 5) fYes (callX (aCons (callX (aCons (fV 0) (aCons (b2 (fC (.int 4)) (fV 5) gAdd) aNil)) F__law_cell) (aCons (fV 2) (aCons (fC (.int 5)) aNil))) F__law_word)) (bNm 4))
  (seqX (asgX (b2 (b2 (callX (aCons (fV 0) (aCons (fC (.int 3)) aNil)) F__law_cell) (fC (.int 3)) gDiv) (fC (.int 5)) gMod) (bNm 6))
  (seqX (asgX (callX (aCons (fV 3) (aCons (fV 4) (aCons (fV 6) aNil))) F__law_told) (bNm 7))
  (seqX (ifS (orT (toT (b2 (b1 (fV 7) gReprD) (b1 (callX (aCons (fV 3) (aCons (fV 4) (aCons (fV 6) aNil))) F__law_graph) gReprD) gNe)) (toT (b2 (callX (aCons (fV 7) aNil) F_is_graph) (fC (.bool true)) gIsNot))) (retX (fC (.bool false))) nxX)
  (seqX (asgX (callX (aCons (fV 1) (aCons (fV 6) aNil)) F__law_level) (bNm 8))
  (seqX (asgX (b2 (callX (aCons (fV 0) (aCons (fC (.int 8)) aNil)) F__law_cell) (b1 (fV 8) gLen) gMod) (bNm 9))
  (seqX (ifS (orT (toT (b2 (callX (aCons (fV 1) (aCons (b2 (fV 8) (fV 9) gIx) aNil)) F__law_number) (fV 9) gNe)) (toT (b2 (callX (aCons (fV 1) (aCons (fV 6) (aCons (fV 9) aNil))) F__law_at) (b2 (fV 8) (fV 9) gIx) gNe))) (retX (fC (.bool false))) nxX)
  (seqX (ifS (orT (toT (b2 (callX (aCons (fV 1) (aCons (fV 6) (aCons (b1 (fV 8) gLen) aNil))) F__law_at) (fC (.str "number")) gNe)) (orT (toT (b2 (callX (aCons (fV 1) (aCons (fC (.int 11)) (aCons (fC (.int 0)) aNil))) F__law_at) (fC (.str "number")) gNe)) (toT (b2 (callX (aCons (fC (.int 5)) (aCons (fC (.int 1)) (aCons (fC (.int 0)) aNil))) F__law_at) (fC (.str "number")) gNe)))) (retX (fC (.bool false))) nxX)
  (seqX (ifS (orT (toT (b2 (callX (aCons (fV 1) (aCons (fC (.str "01x")) aNil)) F__law_number) (fC (.str "string")) gNe)) (orT (toT (b2 (callX (aCons (fC (.int 1)) (aCons (fC (.str "0")) aNil)) F__law_number) (fC (.str "number")) gNe)) (toT (b2 (callX (aCons (fV 1) (aCons (b1 (fV 1) gStr) aNil)) F__law_number) (fC (.str "string")) gNe)))) (retX (fC (.bool false))) nxX)
  (seqX (asgX (c1 (aCons (fV 1) (aCons (b2 (s3 (b2 (fV 3) (fC (.int 1)) gIx) oNone (oSome (b1 (fC (.int 1)) gNeg)) gSl) (c1 (aCons (b2 (c1 (aCons (c1 (aCons (fC (.int 0)) (aCons (fC (.int 0)) aNil)) gTupD) aNil) gTupD) (fV 1) gMul) aNil) gTupD) gAdd) aNil)) gTupD) (bNm 10))
  (seqX (ifS (orT (toT (b2 (callX (aCons (fV 10) (aCons (c1 (aCons (fC (.str "x")) aNil) gLstD) (aCons (b1 (fC (.int 1)) gNeg) aNil))) F__law_told) (fC (.str "machine")) gNe)) (toT (b2 (callX (aCons (fV 3) (aCons (b2 (fV 4) (c1 (aCons (b2 (fC (.str "h")) (fC (.str "z")) gAdd) aNil) gLstD) gAdd) (aCons (b1 (fC (.int 1)) gNeg) aNil))) F__law_told) (fC (.str "word")) gNe))) (retX (fC (.bool false))) nxX)
  (seqX (ifS (orT (toT (b2 (callX (aCons (fV 3) (aCons (c1 aNil gLstD) (aCons (fC (.int 1)) aNil))) F__law_told) (fC (.str "number")) gNe)) (toT (b2 (callX (aCons (fV 3) (aCons (b2 (c1 (aCons (fC (.str "")) aNil) gLstD) (fC (.int 7)) gRepF) (aCons (fC (.int 1)) aNil))) F__law_told) (fC (.str "number")) gNe))) (retX (fC (.bool false))) nxX)
  (retX (andX (b2 (callX (aCons (fV 3) (aCons (fV 4) (aCons (b1 (fC (.int 1)) gNeg) aNil))) F__law_told) (fC (.str "number")) gEq) (b2 (callX (aCons (fV 3) (aCons (fV 4) (aCons (fC (.int 11)) aNil))) F__law_told) (fC (.str "large")) gEq))))))))))))))))))
abbrev F_law : FX := defX 1 11 p_law
theorem b_law {P : Program} {w : World} {base : Heap} {K : PySem.W.Frag} {mg : Str → Option Value} {Ts : List Addr} {f : Addr} {cdv : Value} (F : Fc K mg) (D__law_cell : Df P w base ⟨K, mg, Ts⟩ "_law_cell" 1 2 F__law_cell) (D__law_machine : Df P w base ⟨K, mg, Ts⟩ "_law_machine" 2 4 F__law_machine) (D__law_word : Df P w base ⟨K, mg, Ts⟩ "_law_word" 2 3 F__law_word) (D__law_told : Df P w base ⟨K, mg, Ts⟩ "_law_told" 11 3 F__law_told) (D_is_graph : Df P w base ⟨K, mg, Ts⟩ "is_graph" 2 1 F_is_graph) (D__law_graph : Df P w base ⟨K, mg, Ts⟩ "_law_graph" 2 3 F__law_graph) (D__law_level : Df P w base ⟨K, mg, Ts⟩ "_law_level" 1 2 F__law_level) (D__law_at : Df P w base ⟨K, mg, Ts⟩ "_law_at" 3 3 F__law_at) (D__law_number : Df P w base ⟨K, mg, Ts⟩ "_law_number" 5 2 F__law_number)
    (A : Around) (outer : List Env) (s : Shared) (H : Hp) (E : XK) (hgd : A.guards = some []) (hr : Room 11 (A.deeper (envOfC "law" (defScope (top 64)) s.heap.objs.size f cdv))) :
    ∃ t, PBk (cxOf (L2.CX P w) P w K mg base ["script", "k", "n", "machine", "words", "j", "level", "told", "strings", "at", "bad"] "law" (defScope (top 64)) f cdv A outer s H E) (CfD ⟨K, mg, Ts⟩ []) (WD E) (defBody (top 64)) t p_law := by
  have o : On (cxOf (L2.CX P w) P w K mg base ["script", "k", "n", "machine", "words", "j", "level", "told", "strings", "at", "bad"] "law" (defScope (top 64)) f cdv A outer s H E) (CfD ⟨K, mg, Ts⟩ []) 11 := .mk' rfl rfl hr (show (["script", "k", "n", "machine", "words", "j", "level", "told", "strings", "at", "bad"] : List Str).Nodup by decide +kernel)
  have tk : Takes (cxOf (L2.CX P w) P w K mg base ["script", "k", "n", "machine", "words", "j", "level", "told", "strings", "at", "bad"] "law" (defScope (top 64)) f cdv A outer s H E) (WD E) := takes_of rfl rfl rfl rfl
  have po := passes_of (X := (cxOf (L2.CX P w) P w K mg base ["script", "k", "n", "machine", "words", "j", "level", "told", "strings", "at", "bad"] "law" (defScope (top 64)) f cdv A outer s H E)) rfl
  exact ⟨_, (pbk_cons (st_set o 1 (pp_add o pp_int (pp_mod o (pp_call D__law_cell o rfl (by decide) tk rfl (par_cons (pp_var 0) (par_cons pp_int par_nil))) pp_int)))
      (pbk_cons (st_set o 2 (pp_add o pp_int (pp_mod o (pp_div o (pp_call D__law_cell o rfl (by decide) tk rfl (par_cons (pp_var 0) (par_cons pp_int par_nil))) pp_int) pp_int)))
      (pbk_cons (st_set o 3 (pp_call D__law_machine o rfl (by decide) tk rfl (par_cons (pp_call D__law_cell o rfl (by decide) tk rfl (par_cons (pp_var 0) (par_cons pp_int par_nil))) (par_cons (pp_call D__law_cell o rfl (by decide) tk rfl (par_cons (pp_var 0) (par_cons pp_int par_nil))) (par_cons (pp_var 1) (par_cons (pp_var 2) par_nil))))))
      (pbk_cons (st_setLc o rfl 4 (own := [("j", 5)]) (pi_r1 o rfl F.b_range (pp_add o pp_int (pp_mod o (pp_call D__law_cell o rfl (by decide) tk rfl (par_cons (pp_var 0) (par_cons pp_int par_nil))) pp_int))) (blkOk_by (by kernel_rfl)) (wp_nm (by simp)) rfl (fun _ _ _ _ _ => (tg_nm o.blk.k 5)) (fun _ _ _ _ _ => ptf_nil) (fun _ _ _ _ _ => (pp_call D__law_word o.blk rfl (by decide) takes0 rfl (par_cons (pp_call D__law_cell o.blk rfl (by decide) takes0 rfl (par_cons (pp_var 0) (par_cons (pp_add o.blk pp_int (pp_var 5)) par_nil))) (par_cons (pp_var 2) (par_cons pp_int par_nil))))) (sw_true rfl rfl rfl (by kernel_rfl)))
      (pbk_cons (st_set o 6 (pp_mod o (pp_div o (pp_call D__law_cell o rfl (by decide) tk rfl (par_cons (pp_var 0) (par_cons pp_int par_nil))) pp_int) pp_int))
      (pbk_cons (st_set o 7 (pp_call D__law_told o rfl (by decide) tk rfl (par_cons (pp_var 3) (par_cons (pp_var 4) (par_cons (pp_var 6) par_nil)))))
      (pbk_cons (st_if (PWt.tt (pwt_or (pt_ne o (pp_reprG o hgd rfl F.b_repr (PP.h (pp_var 7))) (pp_reprG o hgd rfl F.b_repr (PP.h (pp_call D__law_graph o rfl (by decide) tk rfl (par_cons (pp_var 3) (par_cons (pp_var 4) (par_cons (pp_var 6) par_nil))))))) (pwt_or1 (pt_isnot o (pp_call D_is_graph o rfl (by decide) tk rfl (par_cons (pp_var 7) par_nil)) pp_bl)))) (pbk_one (st_ret pp_bl)) pbk_nil)
      (pbk_cons (st_set o 8 (pp_call D__law_level o rfl (by decide) tk rfl (par_cons (pp_var 1) (par_cons (pp_var 6) par_nil))))
      (pbk_cons (st_set o 9 (pp_mod o (pp_call D__law_cell o rfl (by decide) tk rfl (par_cons (pp_var 0) (par_cons pp_int par_nil))) (pp_len o rfl F.b_len (PP.h (pp_var 8)))))
      (pbk_cons (st_if (PWt.tt (pwt_or (pt_ne o (pp_call D__law_number o rfl (by decide) tk rfl (par_cons (pp_var 1) (par_cons (pp_ix o (PP.h (pp_var 8)) (pp_var 9)) par_nil))) (pp_var 9)) (pwt_or1 (pt_ne o (pp_call D__law_at o rfl (by decide) tk rfl (par_cons (pp_var 1) (par_cons (pp_var 6) (par_cons (pp_var 9) par_nil)))) (pp_ix o (PP.h (pp_var 8)) (pp_var 9)))))) (pbk_one (st_ret pp_bl)) pbk_nil)
      (pbk_cons (st_if (PWt.tt (pwt_or (pt_ne o (pp_call D__law_at o rfl (by decide) tk rfl (par_cons (pp_var 1) (par_cons (pp_var 6) (par_cons (pp_len o rfl F.b_len (PP.h (pp_var 8))) par_nil)))) pp_str) (pwt_or (pt_ne o (pp_call D__law_at o rfl (by decide) tk rfl (par_cons (pp_var 1) (par_cons pp_int (par_cons pp_int par_nil)))) pp_str) (pwt_or1 (pt_ne o (pp_call D__law_at o rfl (by decide) tk rfl (par_cons pp_int (par_cons pp_int (par_cons pp_int par_nil)))) pp_str))))) (pbk_one (st_ret pp_bl)) pbk_nil)
      (pbk_cons (st_if (PWt.tt (pwt_or (pt_ne o (pp_call D__law_number o rfl (by decide) tk rfl (par_cons (pp_var 1) (par_cons pp_str par_nil))) pp_str) (pwt_or (pt_ne o (pp_call D__law_number o rfl (by decide) tk rfl (par_cons pp_int (par_cons pp_str par_nil))) pp_str) (pwt_or1 (pt_ne o (pp_call D__law_number o rfl (by decide) tk rfl (par_cons (pp_var 1) (par_cons (pp_strO o rfl F.b_str (PP.h (pp_var 1))) par_nil))) pp_str))))) (pbk_one (st_ret pp_bl)) pbk_nil)
      (pbk_cons (st_set o 10 (pp_tup (par_cons (pp_var 1) (par_cons (pp_add o (pp_slice o (PP.h (pp_ix o (PP.h (pp_var 3)) pp_int)) ppo_none (ppo_some (pp_neg o pp_int))) (pp_tup (par_cons (pp_mul o (pp_tup (par_cons (pp_tup (par_cons pp_int (par_cons pp_int par_nil))) par_nil)) (pp_var 1)) par_nil))) par_nil))))
      (pbk_cons (st_if (PWt.tt (pwt_or (pt_ne o (pp_call D__law_told o rfl (by decide) tk rfl (par_cons (pp_var 10) (par_cons (PF.pp (pf_lst (par_cons pp_str par_nil))) (par_cons (pp_neg o pp_int) par_nil)))) pp_str) (pwt_or1 (pt_ne o (pp_call D__law_told o rfl (by decide) tk rfl (par_cons (pp_var 3) (par_cons (pp_add o (pp_var 4) (PF.pp (pf_lst (par_cons (pp_add o pp_str pp_str) par_nil)))) (par_cons (pp_neg o pp_int) par_nil)))) pp_str)))) (pbk_one (st_ret pp_bl)) pbk_nil)
      (pbk_cons (st_if (PWt.tt (pwt_or (pt_ne o (pp_call D__law_told o rfl (by decide) tk rfl (par_cons (pp_var 3) (par_cons (PF.pp (pf_lst par_nil)) (par_cons pp_int par_nil)))) pp_str) (pwt_or1 (pt_ne o (pp_call D__law_told o rfl (by decide) tk rfl (par_cons (pp_var 3) (par_cons (PF.pp (pf_rep o (pf_lst (par_cons pp_str par_nil)) pp_int)) (par_cons pp_int par_nil)))) pp_str)))) (pbk_one (st_ret pp_bl)) pbk_nil)
      (pbk_one (st_ret (pp_and (pp_eq o (pp_call D__law_told o rfl (by decide) tk rfl (par_cons (pp_var 3) (par_cons (pp_var 4) (par_cons (pp_neg o pp_int) par_nil)))) pp_str) (pp_one (pp_eq o (pp_call D__law_told o rfl (by decide) tk rfl (par_cons (pp_var 3) (par_cons (pp_var 4) (par_cons pp_int par_nil)))) pp_str))))))))))))))))))))⟩
theorem sc_check_count : FnScope ["k"] ["k"] (defScope (top 17)) := ⟨rfl, rfl, rfl, by decide +kernel, rfl, by decide +kernel, by decide +kernel⟩
theorem df_check_count {P : Program} {w : World} {base : Heap} {K : PySem.W.Frag} {mg : Str → Option Value} {Ts : List Addr} (F : Fc K mg)  {f : Addr} {oc kV doc pm cdv ct : Value} {od an : Option Addr} {osl : Array (Option Value)} (a : mg "check_count" = some (.ref f)) (l : K.lookup f = some ⟨oc, od, .func (PySem.W.fnOf "check_count" "check_count" (defArgs (top 17)) (defBody (top 17)) (defScope (top 17)) .none kV doc pm an cdv ct), osl⟩) (c : PySem.W.codeIn K cdv "check_count" = true) (k : PySem.W.keepIn K (.ref f) = true) : Df P w base ⟨K, mg, Ts⟩ "check_count" 1 1 F_check_count := df_of (C := ⟨K, mg, Ts⟩) (fl := []) a l c k sc_check_count (fun us hl => match us, hl with | [_], _ => rfl) rfl fun A outer s H E hr => b_check_count F  A outer s H E hr
theorem sc_string_count : FnScope ["k", "level", "count", "_"] ["k", "level"] (defScope (top 36)) := ⟨rfl, rfl, rfl, by decide +kernel, rfl, by decide +kernel, by decide +kernel⟩
theorem df_string_count {P : Program} {w : World} {base : Heap} {K : PySem.W.Frag} {mg : Str → Option Value} {Ts : List Addr} (F : Fc K mg)  {f : Addr} {oc kV doc pm cdv ct : Value} {od an : Option Addr} {osl : Array (Option Value)} (a : mg "string_count" = some (.ref f)) (l : K.lookup f = some ⟨oc, od, .func (PySem.W.fnOf "string_count" "string_count" (defArgs (top 36)) (defBody (top 36)) (defScope (top 36)) .none kV doc pm an cdv ct), osl⟩) (c : PySem.W.codeIn K cdv "string_count" = true) (k : PySem.W.keepIn K (.ref f) = true) : Df P w base ⟨K, mg, Ts⟩ "string_count" 1 2 F_string_count := df_of (C := ⟨K, mg, Ts⟩) (fl := []) a l c k sc_string_count (fun us hl => match us, hl with | [_, _], _ => rfl) rfl fun A outer s H E hr => b_string_count F  A outer s H E hr
theorem sc_string_at : FnScope ["k", "n", "number", "digits", "_", "x"] ["k", "n", "number"] (defScope (top 49)) := ⟨rfl, rfl, rfl, by decide +kernel, rfl, by decide +kernel, by decide +kernel⟩
theorem df_string_at {P : Program} {w : World} {base : Heap} {K : PySem.W.Frag} {mg : Str → Option Value} {Ts : List Addr} (F : Fc K mg) (D_check_count : Df P w base ⟨K, mg, Ts⟩ "check_count" 1 1 F_check_count) (D_string_count : Df P w base ⟨K, mg, Ts⟩ "string_count" 1 2 F_string_count) {f : Addr} {oc kV doc pm cdv ct : Value} {od an : Option Addr} {osl : Array (Option Value)} (a : mg "string_at" = some (.ref f)) (l : K.lookup f = some ⟨oc, od, .func (PySem.W.fnOf "string_at" "string_at" (defArgs (top 49)) (defBody (top 49)) (defScope (top 49)) .none kV doc pm an cdv ct), osl⟩) (c : PySem.W.codeIn K cdv "string_at" = true) (k : PySem.W.keepIn K (.ref f) = true) : Df P w base ⟨K, mg, Ts⟩ "string_at" 2 3 F_string_at := df_of (C := ⟨K, mg, Ts⟩) (fl := [3]) a l c k sc_string_at (fun us hl => match us, hl with | [_, _, _], _ => rfl) rfl fun A outer s H E hr => b_string_at F D_check_count D_string_count A outer s H E hr
theorem sc__law_at : FnScope ["k", "n", "number"] ["k", "n", "number"] (defScope (top 63)) := ⟨rfl, rfl, rfl, by decide +kernel, rfl, by decide +kernel, by decide +kernel⟩
theorem df__law_at {P : Program} {w : World} {base : Heap} {K : PySem.W.Frag} {mg : Str → Option Value} {Ts : List Addr} (F : Fc K mg) (D_string_at : Df P w base ⟨K, mg, Ts⟩ "string_at" 2 3 F_string_at) {f : Addr} {oc kV doc pm cdv ct : Value} {od an : Option Addr} {osl : Array (Option Value)} (a : mg "_law_at" = some (.ref f)) (l : K.lookup f = some ⟨oc, od, .func (PySem.W.fnOf "_law_at" "_law_at" (defArgs (top 63)) (defBody (top 63)) (defScope (top 63)) .none kV doc pm an cdv ct), osl⟩) (c : PySem.W.codeIn K cdv "_law_at" = true) (k : PySem.W.keepIn K (.ref f) = true) : Df P w base ⟨K, mg, Ts⟩ "_law_at" 3 3 F__law_at := df_of (C := ⟨K, mg, Ts⟩) (fl := []) a l c k sc__law_at (fun us hl => match us, hl with | [_, _, _], _ => rfl) rfl fun A outer s H E hr => b__law_at F D_string_at A outer s H E hr
theorem sc__law_cell : FnScope ["script", "k"] ["script", "k"] (defScope (top 51)) := ⟨rfl, rfl, rfl, by decide +kernel, rfl, by decide +kernel, by decide +kernel⟩
theorem df__law_cell {P : Program} {w : World} {base : Heap} {K : PySem.W.Frag} {mg : Str → Option Value} {Ts : List Addr} (F : Fc K mg)  {f : Addr} {oc kV doc pm cdv ct : Value} {od an : Option Addr} {osl : Array (Option Value)} (a : mg "_law_cell" = some (.ref f)) (l : K.lookup f = some ⟨oc, od, .func (PySem.W.fnOf "_law_cell" "_law_cell" (defArgs (top 51)) (defBody (top 51)) (defScope (top 51)) .none kV doc pm an cdv ct), osl⟩) (c : PySem.W.codeIn K cdv "_law_cell" = true) (k : PySem.W.keepIn K (.ref f) = true) : Df P w base ⟨K, mg, Ts⟩ "_law_cell" 1 2 F__law_cell := df_of (C := ⟨K, mg, Ts⟩) (fl := []) a l c k sc__law_cell (fun us hl => match us, hl with | [_, _], _ => rfl) rfl fun A outer s H E hr => b__law_cell F  A outer s H E hr
theorem sc__law_level : FnScope ["k", "n", "strings", "step", "longer", "one", "digit"] ["k", "n"] (defScope (top 59)) := ⟨rfl, rfl, rfl, by decide +kernel, rfl, by decide +kernel, by decide +kernel⟩
theorem df__law_level {P : Program} {w : World} {base : Heap} {K : PySem.W.Frag} {mg : Str → Option Value} {Ts : List Addr} (F : Fc K mg)  {f : Addr} {oc kV doc pm cdv ct : Value} {od an : Option Addr} {osl : Array (Option Value)} (a : mg "_law_level" = some (.ref f)) (l : K.lookup f = some ⟨oc, od, .func (PySem.W.fnOf "_law_level" "_law_level" (defArgs (top 59)) (defBody (top 59)) (defScope (top 59)) .none kV doc pm an cdv ct), osl⟩) (c : PySem.W.codeIn K cdv "_law_level" = true) (k : PySem.W.keepIn K (.ref f) = true) : Df P w base ⟨K, mg, Ts⟩ "_law_level" 1 2 F__law_level := df_of (C := ⟨K, mg, Ts⟩) (fl := []) a l c k sc__law_level (fun us hl => match us, hl with | [_, _], _ => rfl) rfl fun A outer s H E hr => b__law_level F  A outer s H E hr
theorem sc__law_moved : FnScope ["machine", "word", "string", "letter", "state", "written", "digit", "row", "outs", "out", "entry"] ["machine", "word", "string"] (defScope (top 58)) := ⟨rfl, rfl, rfl, by decide +kernel, rfl, by decide +kernel, by decide +kernel⟩
theorem df__law_moved {P : Program} {w : World} {base : Heap} {K : PySem.W.Frag} {mg : Str → Option Value} {Ts : List Addr} (F : Fc K mg)  {f : Addr} {oc kV doc pm cdv ct : Value} {od an : Option Addr} {osl : Array (Option Value)} (a : mg "_law_moved" = some (.ref f)) (l : K.lookup f = some ⟨oc, od, .func (PySem.W.fnOf "_law_moved" "_law_moved" (defArgs (top 58)) (defBody (top 58)) (defScope (top 58)) .none kV doc pm an cdv ct), osl⟩) (c : PySem.W.codeIn K cdv "_law_moved" = true) (k : PySem.W.keepIn K (.ref f) = true) : Df P w base ⟨K, mg, Ts⟩ "_law_moved" 1 3 F__law_moved := df_of (C := ⟨K, mg, Ts⟩) (fl := []) a l c k sc__law_moved (fun us hl => match us, hl with | [_, _, _], _ => rfl) rfl fun A outer s H E hr => b__law_moved F  A outer s H E hr
theorem sc__law_graph : FnScope ["machine", "words", "n", "strings", "rows", "word", "string"] ["machine", "words", "n"] (defScope (top 60)) := ⟨rfl, rfl, rfl, by decide +kernel, rfl, by decide +kernel, by decide +kernel⟩
theorem df__law_graph {P : Program} {w : World} {base : Heap} {K : PySem.W.Frag} {mg : Str → Option Value} {Ts : List Addr} (F : Fc K mg) (D__law_level : Df P w base ⟨K, mg, Ts⟩ "_law_level" 1 2 F__law_level) (D__law_moved : Df P w base ⟨K, mg, Ts⟩ "_law_moved" 1 3 F__law_moved) {f : Addr} {oc kV doc pm cdv ct : Value} {od an : Option Addr} {osl : Array (Option Value)} (a : mg "_law_graph" = some (.ref f)) (l : K.lookup f = some ⟨oc, od, .func (PySem.W.fnOf "_law_graph" "_law_graph" (defArgs (top 60)) (defBody (top 60)) (defScope (top 60)) .none kV doc pm an cdv ct), osl⟩) (c : PySem.W.codeIn K cdv "_law_graph" = true) (k : PySem.W.keepIn K (.ref f) = true) : Df P w base ⟨K, mg, Ts⟩ "_law_graph" 2 3 F__law_graph := df_of (C := ⟨K, mg, Ts⟩) (fl := [4]) a l c k sc__law_graph (fun us hl => match us, hl with | [_, _, _], _ => rfl) rfl fun A outer s H E hr => b__law_graph F D__law_level D__law_moved A outer s H E hr
theorem sc__law_arranged : FnScope ["value", "size", "left", "row", "k", "at"] ["value", "size"] (defScope (top 53)) := ⟨rfl, rfl, rfl, by decide +kernel, rfl, by decide +kernel, by decide +kernel⟩
theorem df__law_arranged {P : Program} {w : World} {base : Heap} {K : PySem.W.Frag} {mg : Str → Option Value} {Ts : List Addr} (F : Fc K mg)  {f : Addr} {oc kV doc pm cdv ct : Value} {od an : Option Addr} {osl : Array (Option Value)} (a : mg "_law_arranged" = some (.ref f)) (l : K.lookup f = some ⟨oc, od, .func (PySem.W.fnOf "_law_arranged" "_law_arranged" (defArgs (top 53)) (defBody (top 53)) (defScope (top 53)) .none kV doc pm an cdv ct), osl⟩) (c : PySem.W.codeIn K cdv "_law_arranged" = true) (k : PySem.W.keepIn K (.ref f) = true) : Df P w base ⟨K, mg, Ts⟩ "_law_arranged" 1 2 F__law_arranged := df_of (C := ⟨K, mg, Ts⟩) (fl := [3]) a l c k sc__law_arranged (fun us hl => match us, hl with | [_, _], _ => rfl) rfl fun A outer s H E hr => b__law_arranged F  A outer s H E hr
theorem sc__law_values : FnScope ["cell", "count", "size", "values", "rest", "k", "mixed"] ["cell", "count", "size"] (defScope (top 52)) := ⟨rfl, rfl, rfl, by decide +kernel, rfl, by decide +kernel, by decide +kernel⟩
theorem df__law_values {P : Program} {w : World} {base : Heap} {K : PySem.W.Frag} {mg : Str → Option Value} {Ts : List Addr} (F : Fc K mg)  {f : Addr} {oc kV doc pm cdv ct : Value} {od an : Option Addr} {osl : Array (Option Value)} (a : mg "_law_values" = some (.ref f)) (l : K.lookup f = some ⟨oc, od, .func (PySem.W.fnOf "_law_values" "_law_values" (defArgs (top 52)) (defBody (top 52)) (defScope (top 52)) .none kV doc pm an cdv ct), osl⟩) (c : PySem.W.codeIn K cdv "_law_values" = true) (k : PySem.W.keepIn K (.ref f) = true) : Df P w base ⟨K, mg, Ts⟩ "_law_values" 1 3 F__law_values := df_of (C := ⟨K, mg, Ts⟩) (fl := [3]) a l c k sc__law_values (fun us hl => match us, hl with | [_, _, _], _ => rfl) rfl fun A outer s H E hr => b__law_values F  A outer s H E hr
theorem sc__law_machine : FnScope ["cell", "second", "k", "n", "values", "turns", "kind", "rows", "state", "outs", "row", "digit", "following"] ["cell", "second", "k", "n"] (defScope (top 54)) := ⟨rfl, rfl, rfl, by decide +kernel, rfl, by decide +kernel, by decide +kernel⟩
theorem df__law_machine {P : Program} {w : World} {base : Heap} {K : PySem.W.Frag} {mg : Str → Option Value} {Ts : List Addr} (F : Fc K mg) (D__law_values : Df P w base ⟨K, mg, Ts⟩ "_law_values" 1 3 F__law_values) (D__law_arranged : Df P w base ⟨K, mg, Ts⟩ "_law_arranged" 1 2 F__law_arranged) {f : Addr} {oc kV doc pm cdv ct : Value} {od an : Option Addr} {osl : Array (Option Value)} (a : mg "_law_machine" = some (.ref f)) (l : K.lookup f = some ⟨oc, od, .func (PySem.W.fnOf "_law_machine" "_law_machine" (defArgs (top 54)) (defBody (top 54)) (defScope (top 54)) .none kV doc pm an cdv ct), osl⟩) (c : PySem.W.codeIn K cdv "_law_machine" = true) (k : PySem.W.keepIn K (.ref f) = true) : Df P w base ⟨K, mg, Ts⟩ "_law_machine" 2 4 F__law_machine := df_of (C := ⟨K, mg, Ts⟩) (fl := [7, 10]) a l c k sc__law_machine (fun us hl => match us, hl with | [_, _, _, _], _ => rfl) rfl fun A outer s H E hr => b__law_machine F D__law_values D__law_arranged A outer s H E hr
theorem sc_has_digits : FnScope ["k", "string", "digit"] ["k", "string"] (defScope (top 20)) := ⟨rfl, rfl, rfl, by decide +kernel, rfl, by decide +kernel, by decide +kernel⟩
theorem df_has_digits {P : Program} {w : World} {base : Heap} {K : PySem.W.Frag} {mg : Str → Option Value} {Ts : List Addr} (F : Fc K mg)  {f : Addr} {oc kV doc pm cdv ct : Value} {od an : Option Addr} {osl : Array (Option Value)} {cc PP_ : Addr} (hP : PP_ ∈ Ts) (TB : LamX.TabB base mg cc PP_) (hcd : cdv = .ref cc) (a : mg "has_digits" = some (.ref f)) (l : K.lookup f = some ⟨oc, od, .func (PySem.W.fnOf "has_digits" "has_digits" (defArgs (top 20)) (defBody (top 20)) (defScope (top 20)) .none kV doc pm an cdv ct), osl⟩) (c : PySem.W.codeIn K cdv "has_digits" = true) (k : PySem.W.keepIn K (.ref f) = true) : Df P w base ⟨K, mg, Ts⟩ "has_digits" 2 2 F_has_digits := df_of (C := ⟨K, mg, Ts⟩) (fl := []) a l c k sc_has_digits (fun us hl => match us, hl with | [_, _], _ => rfl) rfl fun A outer s H E hr => b_has_digits F  hP TB hcd A outer s H E hr
theorem sc_check_string : FnScope ["k", "string"] ["k", "string"] (defScope (top 21)) := ⟨rfl, rfl, rfl, by decide +kernel, rfl, by decide +kernel, by decide +kernel⟩
theorem df_check_string {P : Program} {w : World} {base : Heap} {K : PySem.W.Frag} {mg : Str → Option Value} {Ts : List Addr} (F : Fc K mg) (D_has_digits : Df P w base ⟨K, mg, Ts⟩ "has_digits" 2 2 F_has_digits) {f : Addr} {oc kV doc pm cdv ct : Value} {od an : Option Addr} {osl : Array (Option Value)} (a : mg "check_string" = some (.ref f)) (l : K.lookup f = some ⟨oc, od, .func (PySem.W.fnOf "check_string" "check_string" (defArgs (top 21)) (defBody (top 21)) (defScope (top 21)) .none kV doc pm an cdv ct), osl⟩) (c : PySem.W.codeIn K cdv "check_string" = true) (k : PySem.W.keepIn K (.ref f) = true) : Df P w base ⟨K, mg, Ts⟩ "check_string" 3 2 F_check_string := df_of (C := ⟨K, mg, Ts⟩) (fl := []) a l c k sc_check_string (fun us hl => match us, hl with | [_, _], _ => rfl) rfl fun A outer s H E hr => b_check_string F D_has_digits A outer s H E hr
theorem sc_number_of : FnScope ["k", "string", "number", "digit"] ["k", "string"] (defScope (top 48)) := ⟨rfl, rfl, rfl, by decide +kernel, rfl, by decide +kernel, by decide +kernel⟩
theorem df_number_of {P : Program} {w : World} {base : Heap} {K : PySem.W.Frag} {mg : Str → Option Value} {Ts : List Addr} (F : Fc K mg) (D_check_count : Df P w base ⟨K, mg, Ts⟩ "check_count" 1 1 F_check_count) (D_check_string : Df P w base ⟨K, mg, Ts⟩ "check_string" 3 2 F_check_string) {f : Addr} {oc kV doc pm cdv ct : Value} {od an : Option Addr} {osl : Array (Option Value)} (a : mg "number_of" = some (.ref f)) (l : K.lookup f = some ⟨oc, od, .func (PySem.W.fnOf "number_of" "number_of" (defArgs (top 48)) (defBody (top 48)) (defScope (top 48)) .none kV doc pm an cdv ct), osl⟩) (c : PySem.W.codeIn K cdv "number_of" = true) (k : PySem.W.keepIn K (.ref f) = true) : Df P w base ⟨K, mg, Ts⟩ "number_of" 4 2 F_number_of := df_of (C := ⟨K, mg, Ts⟩) (fl := []) a l c k sc_number_of (fun us hl => match us, hl with | [_, _], _ => rfl) rfl fun A outer s H E hr => b_number_of F D_check_count D_check_string A outer s H E hr
theorem sc__law_number : FnScope ["k", "string"] ["k", "string"] (defScope (top 62)) := ⟨rfl, rfl, rfl, by decide +kernel, rfl, by decide +kernel, by decide +kernel⟩
theorem df__law_number {P : Program} {w : World} {base : Heap} {K : PySem.W.Frag} {mg : Str → Option Value} {Ts : List Addr} (F : Fc K mg) (D_number_of : Df P w base ⟨K, mg, Ts⟩ "number_of" 4 2 F_number_of) {f : Addr} {oc kV doc pm cdv ct : Value} {od an : Option Addr} {osl : Array (Option Value)} (a : mg "_law_number" = some (.ref f)) (l : K.lookup f = some ⟨oc, od, .func (PySem.W.fnOf "_law_number" "_law_number" (defArgs (top 62)) (defBody (top 62)) (defScope (top 62)) .none kV doc pm an cdv ct), osl⟩) (c : PySem.W.codeIn K cdv "_law_number" = true) (k : PySem.W.keepIn K (.ref f) = true) : Df P w base ⟨K, mg, Ts⟩ "_law_number" 5 2 F__law_number := df_of (C := ⟨K, mg, Ts⟩) (fl := []) a l c k sc__law_number (fun us hl => match us, hl with | [_, _], _ => rfl) rfl fun A outer s H E hr => b__law_number F D_number_of A outer s H E hr
theorem sc_is_row : FnScope ["row", "k", "states", "written", "out", "_", "after"] ["row", "k", "states"] (defScope (top 15)) := ⟨rfl, rfl, rfl, by decide +kernel, rfl, by decide +kernel, by decide +kernel⟩
theorem df_is_row {P : Program} {w : World} {base : Heap} {K : PySem.W.Frag} {mg : Str → Option Value} {Ts : List Addr} (F : Fc K mg)  {f : Addr} {oc kV doc pm cdv ct : Value} {od an : Option Addr} {osl : Array (Option Value)} {cc PP_ : Addr} (hP : PP_ ∈ Ts) (TB : LamX.TabB base mg cc PP_) (hcd : cdv = .ref cc) (a : mg "is_row" = some (.ref f)) (l : K.lookup f = some ⟨oc, od, .func (PySem.W.fnOf "is_row" "is_row" (defArgs (top 15)) (defBody (top 15)) (defScope (top 15)) .none kV doc pm an cdv ct), osl⟩) (c : PySem.W.codeIn K cdv "is_row" = true) (k : PySem.W.keepIn K (.ref f) = true) : Df P w base ⟨K, mg, Ts⟩ "is_row" 2 3 F_is_row := df_of (C := ⟨K, mg, Ts⟩) (fl := []) a l c k sc_is_row (fun us hl => match us, hl with | [_, _, _], _ => rfl) rfl fun A outer s H E hr => b_is_row F  hP TB hcd A outer s H E hr
theorem sc_is_wide : FnScope ["machine", "k", "rows", "row"] ["machine"] (defScope (top 14)) := ⟨rfl, rfl, rfl, by decide +kernel, rfl, by decide +kernel, by decide +kernel⟩
theorem df_is_wide {P : Program} {w : World} {base : Heap} {K : PySem.W.Frag} {mg : Str → Option Value} {Ts : List Addr} (F : Fc K mg) (D_is_row : Df P w base ⟨K, mg, Ts⟩ "is_row" 2 3 F_is_row) {f : Addr} {oc kV doc pm cdv ct : Value} {od an : Option Addr} {osl : Array (Option Value)} {cc PP_ : Addr} (hP : PP_ ∈ Ts) (TB : LamX.TabB base mg cc PP_) (hcd : cdv = .ref cc) (a : mg "is_wide" = some (.ref f)) (l : K.lookup f = some ⟨oc, od, .func (PySem.W.fnOf "is_wide" "is_wide" (defArgs (top 14)) (defBody (top 14)) (defScope (top 14)) .none kV doc pm an cdv ct), osl⟩) (c : PySem.W.codeIn K cdv "is_wide" = true) (k : PySem.W.keepIn K (.ref f) = true) : Df P w base ⟨K, mg, Ts⟩ "is_wide" 4 1 F_is_wide := df_of (C := ⟨K, mg, Ts⟩) (fl := []) a l c k sc_is_wide (fun us hl => match us, hl with | [_], _ => rfl) rfl fun A outer s H E hr => b_is_wide F D_is_row hP TB hcd A outer s H E hr
theorem sc_is_machine : FnScope ["machine"] ["machine"] (defScope (top 16)) := ⟨rfl, rfl, rfl, by decide +kernel, rfl, by decide +kernel, by decide +kernel⟩
theorem df_is_machine {P : Program} {w : World} {base : Heap} {K : PySem.W.Frag} {mg : Str → Option Value} {Ts : List Addr} (F : Fc K mg) (D_is_wide : Df P w base ⟨K, mg, Ts⟩ "is_wide" 4 1 F_is_wide) {f : Addr} {oc kV doc pm cdv ct : Value} {od an : Option Addr} {osl : Array (Option Value)} (a : mg "is_machine" = some (.ref f)) (l : K.lookup f = some ⟨oc, od, .func (PySem.W.fnOf "is_machine" "is_machine" (defArgs (top 16)) (defBody (top 16)) (defScope (top 16)) .none kV doc pm an cdv ct), osl⟩) (c : PySem.W.codeIn K cdv "is_machine" = true) (k : PySem.W.keepIn K (.ref f) = true) : Df P w base ⟨K, mg, Ts⟩ "is_machine" 5 1 F_is_machine := df_of (C := ⟨K, mg, Ts⟩) (fl := []) a l c k sc_is_machine (fun us hl => match us, hl with | [_], _ => rfl) rfl fun A outer s H E hr => b_is_machine F D_is_wide A outer s H E hr
theorem sc_check_machine : FnScope ["machine"] ["machine"] (defScope (top 19)) := ⟨rfl, rfl, rfl, by decide +kernel, rfl, by decide +kernel, by decide +kernel⟩
theorem df_check_machine {P : Program} {w : World} {base : Heap} {K : PySem.W.Frag} {mg : Str → Option Value} {Ts : List Addr} (F : Fc K mg) (D_is_machine : Df P w base ⟨K, mg, Ts⟩ "is_machine" 5 1 F_is_machine) {f : Addr} {oc kV doc pm cdv ct : Value} {od an : Option Addr} {osl : Array (Option Value)} (a : mg "check_machine" = some (.ref f)) (l : K.lookup f = some ⟨oc, od, .func (PySem.W.fnOf "check_machine" "check_machine" (defArgs (top 19)) (defBody (top 19)) (defScope (top 19)) .none kV doc pm an cdv ct), osl⟩) (c : PySem.W.codeIn K cdv "check_machine" = true) (k : PySem.W.keepIn K (.ref f) = true) : Df P w base ⟨K, mg, Ts⟩ "check_machine" 6 1 F_check_machine := df_of (C := ⟨K, mg, Ts⟩) (fl := []) a l c k sc_check_machine (fun us hl => match us, hl with | [_], _ => rfl) rfl fun A outer s H E hr => b_check_machine F D_is_machine A outer s H E hr
theorem sc_letters_of : FnScope ["machine"] ["machine"] (defScope (top 30)) := ⟨rfl, rfl, rfl, by decide +kernel, rfl, by decide +kernel, by decide +kernel⟩
theorem df_letters_of {P : Program} {w : World} {base : Heap} {K : PySem.W.Frag} {mg : Str → Option Value} {Ts : List Addr} (F : Fc K mg)  {f : Addr} {oc kV doc pm cdv ct : Value} {od an : Option Addr} {osl : Array (Option Value)} (a : mg "letters_of" = some (.ref f)) (l : K.lookup f = some ⟨oc, od, .func (PySem.W.fnOf "letters_of" "letters_of" (defArgs (top 30)) (defBody (top 30)) (defScope (top 30)) .none kV doc pm an cdv ct), osl⟩) (c : PySem.W.codeIn K cdv "letters_of" = true) (k : PySem.W.keepIn K (.ref f) = true) : Df P w base ⟨K, mg, Ts⟩ "letters_of" 1 1 F_letters_of := df_of (C := ⟨K, mg, Ts⟩) (fl := []) a l c k sc_letters_of (fun us hl => match us, hl with | [_], _ => rfl) rfl fun A outer s H E hr => b_letters_of F  A outer s H E hr
theorem sc_has_letters : FnScope ["machine", "word", "letters", "letter"] ["machine", "word"] (defScope (top 31)) := ⟨rfl, rfl, rfl, by decide +kernel, rfl, by decide +kernel, by decide +kernel⟩
theorem df_has_letters {P : Program} {w : World} {base : Heap} {K : PySem.W.Frag} {mg : Str → Option Value} {Ts : List Addr} (F : Fc K mg) (D_letters_of : Df P w base ⟨K, mg, Ts⟩ "letters_of" 1 1 F_letters_of) {f : Addr} {oc kV doc pm cdv ct : Value} {od an : Option Addr} {osl : Array (Option Value)} {cc PP_ : Addr} (hP : PP_ ∈ Ts) (TB : LamX.TabB base mg cc PP_) (hcd : cdv = .ref cc) (a : mg "has_letters" = some (.ref f)) (l : K.lookup f = some ⟨oc, od, .func (PySem.W.fnOf "has_letters" "has_letters" (defArgs (top 31)) (defBody (top 31)) (defScope (top 31)) .none kV doc pm an cdv ct), osl⟩) (c : PySem.W.codeIn K cdv "has_letters" = true) (k : PySem.W.keepIn K (.ref f) = true) : Df P w base ⟨K, mg, Ts⟩ "has_letters" 2 2 F_has_letters := df_of (C := ⟨K, mg, Ts⟩) (fl := []) a l c k sc_has_letters (fun us hl => match us, hl with | [_, _], _ => rfl) rfl fun A outer s H E hr => b_has_letters F D_letters_of hP TB hcd A outer s H E hr
theorem sc_check_word : FnScope ["machine", "word"] ["machine", "word"] (defScope (top 32)) := ⟨rfl, rfl, rfl, by decide +kernel, rfl, by decide +kernel, by decide +kernel⟩
theorem df_check_word {P : Program} {w : World} {base : Heap} {K : PySem.W.Frag} {mg : Str → Option Value} {Ts : List Addr} (F : Fc K mg) (D_check_machine : Df P w base ⟨K, mg, Ts⟩ "check_machine" 6 1 F_check_machine) (D_has_letters : Df P w base ⟨K, mg, Ts⟩ "has_letters" 2 2 F_has_letters) {f : Addr} {oc kV doc pm cdv ct : Value} {od an : Option Addr} {osl : Array (Option Value)} (a : mg "check_word" = some (.ref f)) (l : K.lookup f = some ⟨oc, od, .func (PySem.W.fnOf "check_word" "check_word" (defArgs (top 32)) (defBody (top 32)) (defScope (top 32)) .none kV doc pm an cdv ct), osl⟩) (c : PySem.W.codeIn K cdv "check_word" = true) (k : PySem.W.keepIn K (.ref f) = true) : Df P w base ⟨K, mg, Ts⟩ "check_word" 7 2 F_check_word := df_of (C := ⟨K, mg, Ts⟩) (fl := []) a l c k sc_check_word (fun us hl => match us, hl with | [_, _], _ => rfl) rfl fun A outer s H E hr => b_check_word F D_check_machine D_has_letters A outer s H E hr
theorem sc_check_wide : FnScope ["machine"] ["machine"] (defScope (top 18)) := ⟨rfl, rfl, rfl, by decide +kernel, rfl, by decide +kernel, by decide +kernel⟩
theorem df_check_wide {P : Program} {w : World} {base : Heap} {K : PySem.W.Frag} {mg : Str → Option Value} {Ts : List Addr} (F : Fc K mg) (D_is_wide : Df P w base ⟨K, mg, Ts⟩ "is_wide" 4 1 F_is_wide) {f : Addr} {oc kV doc pm cdv ct : Value} {od an : Option Addr} {osl : Array (Option Value)} (a : mg "check_wide" = some (.ref f)) (l : K.lookup f = some ⟨oc, od, .func (PySem.W.fnOf "check_wide" "check_wide" (defArgs (top 18)) (defBody (top 18)) (defScope (top 18)) .none kV doc pm an cdv ct), osl⟩) (c : PySem.W.codeIn K cdv "check_wide" = true) (k : PySem.W.keepIn K (.ref f) = true) : Df P w base ⟨K, mg, Ts⟩ "check_wide" 5 1 F_check_wide := df_of (C := ⟨K, mg, Ts⟩) (fl := []) a l c k sc_check_wide (fun us hl => match us, hl with | [_], _ => rfl) rfl fun A outer s H E hr => b_check_wide F D_is_wide A outer s H E hr
theorem sc_arranged : FnScope ["things", "places", "made", "thing", "place"] ["things", "places"] (defScope (top 22)) := ⟨rfl, rfl, rfl, by decide +kernel, rfl, by decide +kernel, by decide +kernel⟩
theorem df_arranged {P : Program} {w : World} {base : Heap} {K : PySem.W.Frag} {mg : Str → Option Value} {Ts : List Addr} (F : Fc K mg)  {f : Addr} {oc kV doc pm cdv ct : Value} {od an : Option Addr} {osl : Array (Option Value)} (a : mg "arranged" = some (.ref f)) (l : K.lookup f = some ⟨oc, od, .func (PySem.W.fnOf "arranged" "arranged" (defArgs (top 22)) (defBody (top 22)) (defScope (top 22)) .none kV doc pm an cdv ct), osl⟩) (c : PySem.W.codeIn K cdv "arranged" = true) (k : PySem.W.keepIn K (.ref f) = true) : Df P w base ⟨K, mg, Ts⟩ "arranged" 1 2 F_arranged := df_of (C := ⟨K, mg, Ts⟩) (fl := [2]) a l c k sc_arranged (fun us hl => match us, hl with | [_, _], _ => rfl) rfl fun A outer s H E hr => b_arranged F  A outer s H E hr
theorem sc_undone_row : FnScope ["row", "entries", "x", "_", "after", "out"] ["row"] (defScope (top 24)) := ⟨rfl, rfl, rfl, by decide +kernel, rfl, by decide +kernel, by decide +kernel⟩
theorem df_undone_row {P : Program} {w : World} {base : Heap} {K : PySem.W.Frag} {mg : Str → Option Value} {Ts : List Addr} (F : Fc K mg) (D_arranged : Df P w base ⟨K, mg, Ts⟩ "arranged" 1 2 F_arranged) {f : Addr} {oc kV doc pm cdv ct : Value} {od an : Option Addr} {osl : Array (Option Value)} (a : mg "undone_row" = some (.ref f)) (l : K.lookup f = some ⟨oc, od, .func (PySem.W.fnOf "undone_row" "undone_row" (defArgs (top 24)) (defBody (top 24)) (defScope (top 24)) .none kV doc pm an cdv ct), osl⟩) (c : PySem.W.codeIn K cdv "undone_row" = true) (k : PySem.W.keepIn K (.ref f) = true) : Df P w base ⟨K, mg, Ts⟩ "undone_row" 2 1 F_undone_row := df_of (C := ⟨K, mg, Ts⟩) (fl := []) a l c k sc_undone_row (fun us hl => match us, hl with | [_], _ => rfl) rfl fun A outer s H E hr => b_undone_row F D_arranged A outer s H E hr
theorem sc_undoing : FnScope ["machine", "k", "rows", "row"] ["machine"] (defScope (top 23)) := ⟨rfl, rfl, rfl, by decide +kernel, rfl, by decide +kernel, by decide +kernel⟩
theorem df_undoing {P : Program} {w : World} {base : Heap} {K : PySem.W.Frag} {mg : Str → Option Value} {Ts : List Addr} (F : Fc K mg) (D_check_wide : Df P w base ⟨K, mg, Ts⟩ "check_wide" 5 1 F_check_wide) (D_undone_row : Df P w base ⟨K, mg, Ts⟩ "undone_row" 2 1 F_undone_row) {f : Addr} {oc kV doc pm cdv ct : Value} {od an : Option Addr} {osl : Array (Option Value)} (a : mg "undoing" = some (.ref f)) (l : K.lookup f = some ⟨oc, od, .func (PySem.W.fnOf "undoing" "undoing" (defArgs (top 23)) (defBody (top 23)) (defScope (top 23)) .none kV doc pm an cdv ct), osl⟩) (c : PySem.W.codeIn K cdv "undoing" = true) (k : PySem.W.keepIn K (.ref f) = true) : Df P w base ⟨K, mg, Ts⟩ "undoing" 6 1 F_undoing := df_of (C := ⟨K, mg, Ts⟩) (fl := []) a l c k sc_undoing (fun us hl => match us, hl with | [_], _ => rfl) rfl fun A outer s H E hr => b_undoing F D_check_wide D_undone_row A outer s H E hr
theorem sc_steps_of : FnScope ["machine", "steps", "whole", "letters", "letter", "row", "out", "after"] ["machine"] (defScope (top 34)) := ⟨rfl, rfl, rfl, by decide +kernel, rfl, by decide +kernel, by decide +kernel⟩
theorem df_steps_of {P : Program} {w : World} {base : Heap} {K : PySem.W.Frag} {mg : Str → Option Value} {Ts : List Addr} (F : Fc K mg) (D_undoing : Df P w base ⟨K, mg, Ts⟩ "undoing" 6 1 F_undoing) {f : Addr} {oc kV doc pm cdv ct : Value} {od an : Option Addr} {osl : Array (Option Value)} (a : mg "steps_of" = some (.ref f)) (l : K.lookup f = some ⟨oc, od, .func (PySem.W.fnOf "steps_of" "steps_of" (defArgs (top 34)) (defBody (top 34)) (defScope (top 34)) .none kV doc pm an cdv ct), osl⟩) (c : PySem.W.codeIn K cdv "steps_of" = true) (k : PySem.W.keepIn K (.ref f) = true) : Df P w base ⟨K, mg, Ts⟩ "steps_of" 7 1 F_steps_of := df_of (C := ⟨K, mg, Ts⟩) (fl := [1]) a l c k sc_steps_of (fun us hl => match us, hl with | [_], _ => rfl) rfl fun A outer s H E hr => b_steps_of F D_undoing A outer s H E hr
theorem sc_letter_turns : FnScope ["machine", "level", "steps", "turns", "letter", "count", "_", "further", "row", "y", "out", "after"] ["machine", "level"] (defScope (top 37)) := ⟨rfl, rfl, rfl, by decide +kernel, rfl, by decide +kernel, by decide +kernel⟩
theorem df_letter_turns {P : Program} {w : World} {base : Heap} {K : PySem.W.Frag} {mg : Str → Option Value} {Ts : List Addr} (F : Fc K mg) (D_steps_of : Df P w base ⟨K, mg, Ts⟩ "steps_of" 7 1 F_steps_of) {f : Addr} {oc kV doc pm cdv ct : Value} {od an : Option Addr} {osl : Array (Option Value)} (a : mg "letter_turns" = some (.ref f)) (l : K.lookup f = some ⟨oc, od, .func (PySem.W.fnOf "letter_turns" "letter_turns" (defArgs (top 37)) (defBody (top 37)) (defScope (top 37)) .none kV doc pm an cdv ct), osl⟩) (c : PySem.W.codeIn K cdv "letter_turns" = true) (k : PySem.W.keepIn K (.ref f) = true) : Df P w base ⟨K, mg, Ts⟩ "letter_turns" 8 2 F_letter_turns := df_of (C := ⟨K, mg, Ts⟩) (fl := [7]) a l c k sc_letter_turns (fun us hl => match us, hl with | [_, _], _ => rfl) rfl fun A outer s H E hr => b_letter_turns F D_steps_of A outer s H E hr
theorem sc_followed : FnScope ["one", "other", "x"] ["one", "other"] (defScope (top 39)) := ⟨rfl, rfl, rfl, by decide +kernel, rfl, by decide +kernel, by decide +kernel⟩
theorem df_followed {P : Program} {w : World} {base : Heap} {K : PySem.W.Frag} {mg : Str → Option Value} {Ts : List Addr} (F : Fc K mg)  {f : Addr} {oc kV doc pm cdv ct : Value} {od an : Option Addr} {osl : Array (Option Value)} (a : mg "followed" = some (.ref f)) (l : K.lookup f = some ⟨oc, od, .func (PySem.W.fnOf "followed" "followed" (defArgs (top 39)) (defBody (top 39)) (defScope (top 39)) .none kV doc pm an cdv ct), osl⟩) (c : PySem.W.codeIn K cdv "followed" = true) (k : PySem.W.keepIn K (.ref f) = true) : Df P w base ⟨K, mg, Ts⟩ "followed" 1 2 F_followed := df_of (C := ⟨K, mg, Ts⟩) (fl := []) a l c k sc_followed (fun us hl => match us, hl with | [_, _], _ => rfl) rfl fun A outer s H E hr => b_followed F  A outer s H E hr
theorem sc_turned : FnScope ["turns", "word", "numbers", "letter"] ["turns", "word"] (defScope (top 38)) := ⟨rfl, rfl, rfl, by decide +kernel, rfl, by decide +kernel, by decide +kernel⟩
theorem df_turned {P : Program} {w : World} {base : Heap} {K : PySem.W.Frag} {mg : Str → Option Value} {Ts : List Addr} (F : Fc K mg) (D_followed : Df P w base ⟨K, mg, Ts⟩ "followed" 1 2 F_followed) {f : Addr} {oc kV doc pm cdv ct : Value} {od an : Option Addr} {osl : Array (Option Value)} (a : mg "turned" = some (.ref f)) (l : K.lookup f = some ⟨oc, od, .func (PySem.W.fnOf "turned" "turned" (defArgs (top 38)) (defBody (top 38)) (defScope (top 38)) .none kV doc pm an cdv ct), osl⟩) (c : PySem.W.codeIn K cdv "turned" = true) (k : PySem.W.keepIn K (.ref f) = true) : Df P w base ⟨K, mg, Ts⟩ "turned" 2 2 F_turned := df_of (C := ⟨K, mg, Ts⟩) (fl := []) a l c k sc_turned (fun us hl => match us, hl with | [_, _], _ => rfl) rfl fun A outer s H E hr => b_turned F D_followed A outer s H E hr
theorem sc_turns_of : FnScope ["machine", "words", "level", "turns", "word"] ["machine", "words", "level"] (defScope (top 41)) := ⟨rfl, rfl, rfl, by decide +kernel, rfl, by decide +kernel, by decide +kernel⟩
theorem df_turns_of {P : Program} {w : World} {base : Heap} {K : PySem.W.Frag} {mg : Str → Option Value} {Ts : List Addr} (F : Fc K mg) (D_letter_turns : Df P w base ⟨K, mg, Ts⟩ "letter_turns" 8 2 F_letter_turns) (D_turned : Df P w base ⟨K, mg, Ts⟩ "turned" 2 2 F_turned) {f : Addr} {oc kV doc pm cdv ct : Value} {od an : Option Addr} {osl : Array (Option Value)} (a : mg "turns_of" = some (.ref f)) (l : K.lookup f = some ⟨oc, od, .func (PySem.W.fnOf "turns_of" "turns_of" (defArgs (top 41)) (defBody (top 41)) (defScope (top 41)) .none kV doc pm an cdv ct), osl⟩) (c : PySem.W.codeIn K cdv "turns_of" = true) (k : PySem.W.keepIn K (.ref f) = true) : Df P w base ⟨K, mg, Ts⟩ "turns_of" 9 3 F_turns_of := df_of (C := ⟨K, mg, Ts⟩) (fl := []) a l c k sc_turns_of (fun us hl => match us, hl with | [_, _, _], _ => rfl) rfl fun A outer s H E hr => b_turns_of F D_letter_turns D_turned A outer s H E hr
theorem sc_level_graph : FnScope ["machine", "words", "n", "word"] ["machine", "words", "n"] (defScope (top 47)) := ⟨rfl, rfl, rfl, by decide +kernel, rfl, by decide +kernel, by decide +kernel⟩
theorem df_level_graph {P : Program} {w : World} {base : Heap} {K : PySem.W.Frag} {mg : Str → Option Value} {Ts : List Addr} (F : Fc K mg) (D_check_machine : Df P w base ⟨K, mg, Ts⟩ "check_machine" 6 1 F_check_machine) (D_check_word : Df P w base ⟨K, mg, Ts⟩ "check_word" 7 2 F_check_word) (D_string_count : Df P w base ⟨K, mg, Ts⟩ "string_count" 1 2 F_string_count) (D_turns_of : Df P w base ⟨K, mg, Ts⟩ "turns_of" 9 3 F_turns_of) {f : Addr} {oc kV doc pm cdv ct : Value} {od an : Option Addr} {osl : Array (Option Value)} (a : mg "level_graph" = some (.ref f)) (l : K.lookup f = some ⟨oc, od, .func (PySem.W.fnOf "level_graph" "level_graph" (defArgs (top 47)) (defBody (top 47)) (defScope (top 47)) .none kV doc pm an cdv ct), osl⟩) (c : PySem.W.codeIn K cdv "level_graph" = true) (k : PySem.W.keepIn K (.ref f) = true) : Df P w base ⟨K, mg, Ts⟩ "level_graph" 10 3 F_level_graph := df_of (C := ⟨K, mg, Ts⟩) (fl := []) a l c k sc_level_graph (fun us hl => match us, hl with | [_, _, _], _ => rfl) rfl fun A outer s H E hr => b_level_graph F D_check_machine D_check_word D_string_count D_turns_of A outer s H E hr
theorem sc__law_told : FnScope ["machine", "words", "n"] ["machine", "words", "n"] (defScope (top 61)) := ⟨rfl, rfl, rfl, by decide +kernel, rfl, by decide +kernel, by decide +kernel⟩
theorem df__law_told {P : Program} {w : World} {base : Heap} {K : PySem.W.Frag} {mg : Str → Option Value} {Ts : List Addr} (F : Fc K mg) (D_level_graph : Df P w base ⟨K, mg, Ts⟩ "level_graph" 10 3 F_level_graph) {f : Addr} {oc kV doc pm cdv ct : Value} {od an : Option Addr} {osl : Array (Option Value)} (a : mg "_law_told" = some (.ref f)) (l : K.lookup f = some ⟨oc, od, .func (PySem.W.fnOf "_law_told" "_law_told" (defArgs (top 61)) (defBody (top 61)) (defScope (top 61)) .none kV doc pm an cdv ct), osl⟩) (c : PySem.W.codeIn K cdv "_law_told" = true) (k : PySem.W.keepIn K (.ref f) = true) : Df P w base ⟨K, mg, Ts⟩ "_law_told" 11 3 F__law_told := df_of (C := ⟨K, mg, Ts⟩) (fl := []) a l c k sc__law_told (fun us hl => match us, hl with | [_, _, _], _ => rfl) rfl fun A outer s H E hr => b__law_told F D_level_graph A outer s H E hr
theorem sc__law_word : FnScope ["cell", "n", "most", "values", "letters", "value"] ["cell", "n", "most"] (defScope (top 57)) := ⟨rfl, rfl, rfl, by decide +kernel, rfl, by decide +kernel, by decide +kernel⟩
theorem df__law_word {P : Program} {w : World} {base : Heap} {K : PySem.W.Frag} {mg : Str → Option Value} {Ts : List Addr} (F : Fc K mg) (D__law_values : Df P w base ⟨K, mg, Ts⟩ "_law_values" 1 3 F__law_values) {f : Addr} {oc kV doc pm cdv ct : Value} {od an : Option Addr} {osl : Array (Option Value)} (a : mg "_law_word" = some (.ref f)) (l : K.lookup f = some ⟨oc, od, .func (PySem.W.fnOf "_law_word" "_law_word" (defArgs (top 57)) (defBody (top 57)) (defScope (top 57)) .none kV doc pm an cdv ct), osl⟩) (c : PySem.W.codeIn K cdv "_law_word" = true) (k : PySem.W.keepIn K (.ref f) = true) : Df P w base ⟨K, mg, Ts⟩ "_law_word" 2 3 F__law_word := df_of (C := ⟨K, mg, Ts⟩) (fl := []) a l c k sc__law_word (fun us hl => match us, hl with | [_, _, _], _ => rfl) rfl fun A outer s H E hr => b__law_word F D__law_values A outer s H E hr
theorem sc_is_graph : FnScope ["graph", "numbers", "row"] ["graph"] (defScope (top 46)) := ⟨rfl, rfl, rfl, by decide +kernel, rfl, by decide +kernel, by decide +kernel⟩
theorem df_is_graph {P : Program} {w : World} {base : Heap} {K : PySem.W.Frag} {mg : Str → Option Value} {Ts : List Addr} (F : Fc K mg)  {f : Addr} {oc kV doc pm cdv ct : Value} {od an : Option Addr} {osl : Array (Option Value)} {cc PP_ : Addr} (hP : PP_ ∈ Ts) (TB : LamX.TabB base mg cc PP_) (hcd : cdv = .ref cc) (a : mg "is_graph" = some (.ref f)) (l : K.lookup f = some ⟨oc, od, .func (PySem.W.fnOf "is_graph" "is_graph" (defArgs (top 46)) (defBody (top 46)) (defScope (top 46)) .none kV doc pm an cdv ct), osl⟩) (c : PySem.W.codeIn K cdv "is_graph" = true) (k : PySem.W.keepIn K (.ref f) = true) : Df P w base ⟨K, mg, Ts⟩ "is_graph" 2 1 F_is_graph := df_of (C := ⟨K, mg, Ts⟩) (fl := []) a l c k sc_is_graph (fun us hl => match us, hl with | [_], _ => rfl) rfl fun A outer s H E hr => b_is_graph F  hP TB hcd A outer s H E hr
theorem sc_law : FnScope ["script", "k", "n", "machine", "words", "j", "level", "told", "strings", "at", "bad"] ["script"] (defScope (top 64)) := ⟨rfl, rfl, rfl, by decide +kernel, rfl, by decide +kernel, by decide +kernel⟩
theorem df_law {P : Program} {w : World} {base : Heap} {K : PySem.W.Frag} {mg : Str → Option Value} {Ts : List Addr} (F : Fc K mg) (D__law_cell : Df P w base ⟨K, mg, Ts⟩ "_law_cell" 1 2 F__law_cell) (D__law_machine : Df P w base ⟨K, mg, Ts⟩ "_law_machine" 2 4 F__law_machine) (D__law_word : Df P w base ⟨K, mg, Ts⟩ "_law_word" 2 3 F__law_word) (D__law_told : Df P w base ⟨K, mg, Ts⟩ "_law_told" 11 3 F__law_told) (D_is_graph : Df P w base ⟨K, mg, Ts⟩ "is_graph" 2 1 F_is_graph) (D__law_graph : Df P w base ⟨K, mg, Ts⟩ "_law_graph" 2 3 F__law_graph) (D__law_level : Df P w base ⟨K, mg, Ts⟩ "_law_level" 1 2 F__law_level) (D__law_at : Df P w base ⟨K, mg, Ts⟩ "_law_at" 3 3 F__law_at) (D__law_number : Df P w base ⟨K, mg, Ts⟩ "_law_number" 5 2 F__law_number) {f : Addr} {oc kV doc pm cdv ct : Value} {od an : Option Addr} {osl : Array (Option Value)} (a : mg "law" = some (.ref f)) (l : K.lookup f = some ⟨oc, od, .func (PySem.W.fnOf "law" "law" (defArgs (top 64)) (defBody (top 64)) (defScope (top 64)) .none kV doc pm an cdv ct), osl⟩) (c : PySem.W.codeIn K cdv "law" = true) (k : PySem.W.keepIn K (.ref f) = true) : FnG P w K mg base (L2.CX P w) 12 f (PySem.W.fnOf "law" "law" (defArgs (top 64)) (defBody (top 64)) (defScope (top 64)) .none kV doc pm an cdv ct) ["script"] (spF ⟨K, mg, Ts⟩ 1 F_law) := fn_zG (C := ⟨K, mg, Ts⟩) (fl := []) a l c k sc_law (fun us hl => match us, hl with | [_], _ => rfl) rfl fun A outer s H E hgd hr => b_law F D__law_cell D__law_machine D__law_word D__law_told D_is_graph D__law_graph D__law_level D__law_at D__law_number A outer s H E hgd hr
theorem mk {l : PySem.W.OpenLaw} {w : World} {K : PySem.W.Frag} {h : Heap} {mg mb : Str → Option Value} {mean : ExcName → Option Value} {q : Program} {loose : List Str} {fa : Addr} {most : Nat} (X : K.In h) (G : h.Ns mainGlobals mg) (T : Top q loose mean mg mb h) (hfa : mg "law" = some (.ref fa))
    {t_DIGITS : Tok} {t_GREATEST_LEVEL : Tok} {t_LARGE_LETTERS : Tok} {t_LEAST_DIGITS : Tok} {t_LETTERS_IN_ORDER : Tok} {t_LONGEST_STRING : Tok} {t_LONGEST_WORD : Tok} {t_MOST_DIGITS : Tok} {t_MOST_NUMBERS : Tok} {t_MOST_ROWS : Tok} {t_MOST_STATES : Tok} {t_MOST_WIDE_STATES : Tok} {t_SMALL_LETTERS : Tok} {C_BadNumber : Addr} {C_LeafError : Addr} {C_NotMachine : Addr} {C_NotString : Addr} {C_NotWord : Addr} {C_TooLarge : Addr} {f17 : Addr} {oc17 kV17 doc17 pm17 ct17 cd17 : Value} {od17 an17 : Option Addr} {sl17 : Array (Option Value)} {f36 : Addr} {oc36 kV36 doc36 pm36 ct36 cd36 : Value} {od36 an36 : Option Addr} {sl36 : Array (Option Value)} {f49 : Addr} {oc49 kV49 doc49 pm49 ct49 cd49 : Value} {od49 an49 : Option Addr} {sl49 : Array (Option Value)} {f63 : Addr} {oc63 kV63 doc63 pm63 ct63 cd63 : Value} {od63 an63 : Option Addr} {sl63 : Array (Option Value)} {f51 : Addr} {oc51 kV51 doc51 pm51 ct51 cd51 : Value} {od51 an51 : Option Addr} {sl51 : Array (Option Value)} {f59 : Addr} {oc59 kV59 doc59 pm59 ct59 cd59 : Value} {od59 an59 : Option Addr} {sl59 : Array (Option Value)} {f58 : Addr} {oc58 kV58 doc58 pm58 ct58 cd58 : Value} {od58 an58 : Option Addr} {sl58 : Array (Option Value)} {f60 : Addr} {oc60 kV60 doc60 pm60 ct60 cd60 : Value} {od60 an60 : Option Addr} {sl60 : Array (Option Value)} {f53 : Addr} {oc53 kV53 doc53 pm53 ct53 cd53 : Value} {od53 an53 : Option Addr} {sl53 : Array (Option Value)} {f52 : Addr} {oc52 kV52 doc52 pm52 ct52 cd52 : Value} {od52 an52 : Option Addr} {sl52 : Array (Option Value)} {f54 : Addr} {oc54 kV54 doc54 pm54 ct54 cd54 : Value} {od54 an54 : Option Addr} {sl54 : Array (Option Value)} {f20 : Addr} {oc20 kV20 doc20 pm20 ct20 : Value} {od20 an20 : Option Addr} {sl20 : Array (Option Value)} {cc20 P20 : Addr} {ev20 : Value} {dd20 : Option Addr} {vs20 : Array Value} {es20 : Array (Option Value)} {f21 : Addr} {oc21 kV21 doc21 pm21 ct21 cd21 : Value} {od21 an21 : Option Addr} {sl21 : Array (Option Value)} {f48 : Addr} {oc48 kV48 doc48 pm48 ct48 cd48 : Value} {od48 an48 : Option Addr} {sl48 : Array (Option Value)} {f62 : Addr} {oc62 kV62 doc62 pm62 ct62 cd62 : Value} {od62 an62 : Option Addr} {sl62 : Array (Option Value)} {f15 : Addr} {oc15 kV15 doc15 pm15 ct15 : Value} {od15 an15 : Option Addr} {sl15 : Array (Option Value)} {cc15 P15 : Addr} {ev15 : Value} {dd15 : Option Addr} {vs15 : Array Value} {es15 : Array (Option Value)} {f14 : Addr} {oc14 kV14 doc14 pm14 ct14 : Value} {od14 an14 : Option Addr} {sl14 : Array (Option Value)} {cc14 P14 : Addr} {ev14 : Value} {dd14 : Option Addr} {vs14 : Array Value} {es14 : Array (Option Value)} {f16 : Addr} {oc16 kV16 doc16 pm16 ct16 cd16 : Value} {od16 an16 : Option Addr} {sl16 : Array (Option Value)} {f19 : Addr} {oc19 kV19 doc19 pm19 ct19 cd19 : Value} {od19 an19 : Option Addr} {sl19 : Array (Option Value)} {f30 : Addr} {oc30 kV30 doc30 pm30 ct30 cd30 : Value} {od30 an30 : Option Addr} {sl30 : Array (Option Value)} {f31 : Addr} {oc31 kV31 doc31 pm31 ct31 : Value} {od31 an31 : Option Addr} {sl31 : Array (Option Value)} {cc31 P31 : Addr} {ev31 : Value} {dd31 : Option Addr} {vs31 : Array Value} {es31 : Array (Option Value)} {f32 : Addr} {oc32 kV32 doc32 pm32 ct32 cd32 : Value} {od32 an32 : Option Addr} {sl32 : Array (Option Value)} {f18 : Addr} {oc18 kV18 doc18 pm18 ct18 cd18 : Value} {od18 an18 : Option Addr} {sl18 : Array (Option Value)} {f22 : Addr} {oc22 kV22 doc22 pm22 ct22 cd22 : Value} {od22 an22 : Option Addr} {sl22 : Array (Option Value)} {f24 : Addr} {oc24 kV24 doc24 pm24 ct24 cd24 : Value} {od24 an24 : Option Addr} {sl24 : Array (Option Value)} {f23 : Addr} {oc23 kV23 doc23 pm23 ct23 cd23 : Value} {od23 an23 : Option Addr} {sl23 : Array (Option Value)} {f34 : Addr} {oc34 kV34 doc34 pm34 ct34 cd34 : Value} {od34 an34 : Option Addr} {sl34 : Array (Option Value)} {f37 : Addr} {oc37 kV37 doc37 pm37 ct37 cd37 : Value} {od37 an37 : Option Addr} {sl37 : Array (Option Value)} {f39 : Addr} {oc39 kV39 doc39 pm39 ct39 cd39 : Value} {od39 an39 : Option Addr} {sl39 : Array (Option Value)} {f38 : Addr} {oc38 kV38 doc38 pm38 ct38 cd38 : Value} {od38 an38 : Option Addr} {sl38 : Array (Option Value)} {f41 : Addr} {oc41 kV41 doc41 pm41 ct41 cd41 : Value} {od41 an41 : Option Addr} {sl41 : Array (Option Value)} {f47 : Addr} {oc47 kV47 doc47 pm47 ct47 cd47 : Value} {od47 an47 : Option Addr} {sl47 : Array (Option Value)} {f61 : Addr} {oc61 kV61 doc61 pm61 ct61 cd61 : Value} {od61 an61 : Option Addr} {sl61 : Array (Option Value)} {f57 : Addr} {oc57 kV57 doc57 pm57 ct57 cd57 : Value} {od57 an57 : Option Addr} {sl57 : Array (Option Value)} {f46 : Addr} {oc46 kV46 doc46 pm46 ct46 : Value} {od46 an46 : Option Addr} {sl46 : Array (Option Value)} {cc46 P46 : Addr} {ev46 : Value} {dd46 : Option Addr} {vs46 : Array Value} {es46 : Array (Option Value)} {f64 : Addr} {oc64 kV64 doc64 pm64 ct64 cd64 : Value} {od64 an64 : Option Addr} {sl64 : Array (Option Value)}
    (b_all : PySem.W.nsIn K mainGlobals "all" = some none)
    (b_divmod : PySem.W.nsIn K mainGlobals "divmod" = some none)
    (b_enumerate : PySem.W.nsIn K mainGlobals "enumerate" = some none)
    (b_int : PySem.W.nsIn K mainGlobals "int" = some none)
    (b_len : PySem.W.nsIn K mainGlobals "len" = some none)
    (b_list : PySem.W.nsIn K mainGlobals "list" = some none)
    (b_range : PySem.W.nsIn K mainGlobals "range" = some none)
    (b_repr : PySem.W.nsIn K mainGlobals "repr" = some none)
    (b_sorted : PySem.W.nsIn K mainGlobals "sorted" = some none)
    (b_str : PySem.W.nsIn K mainGlobals "str" = some none)
    (b_tuple : PySem.W.nsIn K mainGlobals "tuple" = some none)
    (b_zip : PySem.W.nsIn K mainGlobals "zip" = some none)
    (g_DIGITS : PySem.W.nsIn K mainGlobals "DIGITS" = some (some (.str "0123456789" t_DIGITS)))
    (g_GREATEST_LEVEL : PySem.W.nsIn K mainGlobals "GREATEST_LEVEL" = some (some (.int 10 t_GREATEST_LEVEL)))
    (g_LARGE_LETTERS : PySem.W.nsIn K mainGlobals "LARGE_LETTERS" = some (some (.str "ABCDEFGH" t_LARGE_LETTERS)))
    (g_LEAST_DIGITS : PySem.W.nsIn K mainGlobals "LEAST_DIGITS" = some (some (.int 2 t_LEAST_DIGITS)))
    (g_LETTERS_IN_ORDER : PySem.W.nsIn K mainGlobals "LETTERS_IN_ORDER" = some (some (.str "aAbBcCdDeEfFgGhH" t_LETTERS_IN_ORDER)))
    (g_LONGEST_STRING : PySem.W.nsIn K mainGlobals "LONGEST_STRING" = some (some (.int 60 t_LONGEST_STRING)))
    (g_LONGEST_WORD : PySem.W.nsIn K mainGlobals "LONGEST_WORD" = some (some (.int 60 t_LONGEST_WORD)))
    (g_MOST_DIGITS : PySem.W.nsIn K mainGlobals "MOST_DIGITS" = some (some (.int 4 t_MOST_DIGITS)))
    (g_MOST_NUMBERS : PySem.W.nsIn K mainGlobals "MOST_NUMBERS" = some (some (.int 1024 t_MOST_NUMBERS)))
    (g_MOST_ROWS : PySem.W.nsIn K mainGlobals "MOST_ROWS" = some (some (.int 6 t_MOST_ROWS)))
    (g_MOST_STATES : PySem.W.nsIn K mainGlobals "MOST_STATES" = some (some (.int 8 t_MOST_STATES)))
    (g_MOST_WIDE_STATES : PySem.W.nsIn K mainGlobals "MOST_WIDE_STATES" = some (some (.int 200 t_MOST_WIDE_STATES)))
    (g_SMALL_LETTERS : PySem.W.nsIn K mainGlobals "SMALL_LETTERS" = some (some (.str "abcdefgh" t_SMALL_LETTERS)))
    (e0_BadNumber : PySem.W.nsIn K mainGlobals "BadNumber" = some (some (.ref C_BadNumber)))
    (e1_BadNumber : PySem.W.excIn K C_BadNumber [.type "ValueError", .type "Exception", .type "BaseException", .type "object"] "ValueError.__new__" = true)
    (e2_BadNumber : PySem.W.keepIn K (.ref C_BadNumber) = true)
    (e3_BadNumber : PySem.W.subIn K (.ref C_BadNumber) (.type "BaseException") = some true)
    (e4_BadNumber : PySem.W.typeIn K (.ref C_BadNumber) = some (.type "type"))
    (e0_LeafError : PySem.W.nsIn K mainGlobals "LeafError" = some (some (.ref C_LeafError)))
    (e1_LeafError : PySem.W.excIn K C_LeafError [.type "ValueError", .type "Exception", .type "BaseException", .type "object"] "ValueError.__new__" = true)
    (e2_LeafError : PySem.W.keepIn K (.ref C_LeafError) = true)
    (e3_LeafError : PySem.W.subIn K (.ref C_LeafError) (.type "BaseException") = some true)
    (e4_LeafError : PySem.W.typeIn K (.ref C_LeafError) = some (.type "type"))
    (e0_NotMachine : PySem.W.nsIn K mainGlobals "NotMachine" = some (some (.ref C_NotMachine)))
    (e1_NotMachine : PySem.W.excIn K C_NotMachine [.type "ValueError", .type "Exception", .type "BaseException", .type "object"] "ValueError.__new__" = true)
    (e2_NotMachine : PySem.W.keepIn K (.ref C_NotMachine) = true)
    (e3_NotMachine : PySem.W.subIn K (.ref C_NotMachine) (.type "BaseException") = some true)
    (e4_NotMachine : PySem.W.typeIn K (.ref C_NotMachine) = some (.type "type"))
    (e0_NotString : PySem.W.nsIn K mainGlobals "NotString" = some (some (.ref C_NotString)))
    (e1_NotString : PySem.W.excIn K C_NotString [.type "ValueError", .type "Exception", .type "BaseException", .type "object"] "ValueError.__new__" = true)
    (e2_NotString : PySem.W.keepIn K (.ref C_NotString) = true)
    (e3_NotString : PySem.W.subIn K (.ref C_NotString) (.type "BaseException") = some true)
    (e4_NotString : PySem.W.typeIn K (.ref C_NotString) = some (.type "type"))
    (e0_NotWord : PySem.W.nsIn K mainGlobals "NotWord" = some (some (.ref C_NotWord)))
    (e1_NotWord : PySem.W.excIn K C_NotWord [.type "ValueError", .type "Exception", .type "BaseException", .type "object"] "ValueError.__new__" = true)
    (e2_NotWord : PySem.W.keepIn K (.ref C_NotWord) = true)
    (e3_NotWord : PySem.W.subIn K (.ref C_NotWord) (.type "BaseException") = some true)
    (e4_NotWord : PySem.W.typeIn K (.ref C_NotWord) = some (.type "type"))
    (e0_TooLarge : PySem.W.nsIn K mainGlobals "TooLarge" = some (some (.ref C_TooLarge)))
    (e1_TooLarge : PySem.W.excIn K C_TooLarge [.type "ValueError", .type "Exception", .type "BaseException", .type "object"] "ValueError.__new__" = true)
    (e2_TooLarge : PySem.W.keepIn K (.ref C_TooLarge) = true)
    (e3_TooLarge : PySem.W.subIn K (.ref C_TooLarge) (.type "BaseException") = some true)
    (e4_TooLarge : PySem.W.typeIn K (.ref C_TooLarge) = some (.type "type"))
    (m_BadNumber_BadNumber : PySem.W.exmOne K (.ref C_BadNumber) (.ref C_BadNumber) = some true)
    (m_BadNumber_LeafError : PySem.W.exmOne K (.ref C_LeafError) (.ref C_BadNumber) = some false)
    (m_BadNumber_NotMachine : PySem.W.exmOne K (.ref C_NotMachine) (.ref C_BadNumber) = some false)
    (m_BadNumber_NotString : PySem.W.exmOne K (.ref C_NotString) (.ref C_BadNumber) = some false)
    (m_BadNumber_NotWord : PySem.W.exmOne K (.ref C_NotWord) (.ref C_BadNumber) = some false)
    (m_BadNumber_TooLarge : PySem.W.exmOne K (.ref C_TooLarge) (.ref C_BadNumber) = some false)
    (m_NotMachine_BadNumber : PySem.W.exmOne K (.ref C_BadNumber) (.ref C_NotMachine) = some false)
    (m_NotMachine_LeafError : PySem.W.exmOne K (.ref C_LeafError) (.ref C_NotMachine) = some false)
    (m_NotMachine_NotMachine : PySem.W.exmOne K (.ref C_NotMachine) (.ref C_NotMachine) = some true)
    (m_NotMachine_NotString : PySem.W.exmOne K (.ref C_NotString) (.ref C_NotMachine) = some false)
    (m_NotMachine_NotWord : PySem.W.exmOne K (.ref C_NotWord) (.ref C_NotMachine) = some false)
    (m_NotMachine_TooLarge : PySem.W.exmOne K (.ref C_TooLarge) (.ref C_NotMachine) = some false)
    (m_NotString_BadNumber : PySem.W.exmOne K (.ref C_BadNumber) (.ref C_NotString) = some false)
    (m_NotString_LeafError : PySem.W.exmOne K (.ref C_LeafError) (.ref C_NotString) = some false)
    (m_NotString_NotMachine : PySem.W.exmOne K (.ref C_NotMachine) (.ref C_NotString) = some false)
    (m_NotString_NotString : PySem.W.exmOne K (.ref C_NotString) (.ref C_NotString) = some true)
    (m_NotString_NotWord : PySem.W.exmOne K (.ref C_NotWord) (.ref C_NotString) = some false)
    (m_NotString_TooLarge : PySem.W.exmOne K (.ref C_TooLarge) (.ref C_NotString) = some false)
    (m_NotWord_BadNumber : PySem.W.exmOne K (.ref C_BadNumber) (.ref C_NotWord) = some false)
    (m_NotWord_LeafError : PySem.W.exmOne K (.ref C_LeafError) (.ref C_NotWord) = some false)
    (m_NotWord_NotMachine : PySem.W.exmOne K (.ref C_NotMachine) (.ref C_NotWord) = some false)
    (m_NotWord_NotString : PySem.W.exmOne K (.ref C_NotString) (.ref C_NotWord) = some false)
    (m_NotWord_NotWord : PySem.W.exmOne K (.ref C_NotWord) (.ref C_NotWord) = some true)
    (m_NotWord_TooLarge : PySem.W.exmOne K (.ref C_TooLarge) (.ref C_NotWord) = some false)
    (m_TooLarge_BadNumber : PySem.W.exmOne K (.ref C_BadNumber) (.ref C_TooLarge) = some false)
    (m_TooLarge_LeafError : PySem.W.exmOne K (.ref C_LeafError) (.ref C_TooLarge) = some false)
    (m_TooLarge_NotMachine : PySem.W.exmOne K (.ref C_NotMachine) (.ref C_TooLarge) = some false)
    (m_TooLarge_NotString : PySem.W.exmOne K (.ref C_NotString) (.ref C_TooLarge) = some false)
    (m_TooLarge_NotWord : PySem.W.exmOne K (.ref C_NotWord) (.ref C_TooLarge) = some false)
    (m_TooLarge_TooLarge : PySem.W.exmOne K (.ref C_TooLarge) (.ref C_TooLarge) = some true)
    (a17 : PySem.W.nsIn K mainGlobals "check_count" = some (some (.ref f17)))
    (l17 : K.lookup f17 = some ⟨oc17, od17, .func (PySem.W.fnOf "check_count" "check_count" (defArgs (top 17)) (defBody (top 17)) (defScope (top 17)) .none kV17 doc17 pm17 an17 cd17 ct17), sl17⟩)
    (c17 : PySem.W.codeIn K cd17 "check_count" = true)
    (k17 : PySem.W.keepIn K (.ref f17) = true)
    (a36 : PySem.W.nsIn K mainGlobals "string_count" = some (some (.ref f36)))
    (l36 : K.lookup f36 = some ⟨oc36, od36, .func (PySem.W.fnOf "string_count" "string_count" (defArgs (top 36)) (defBody (top 36)) (defScope (top 36)) .none kV36 doc36 pm36 an36 cd36 ct36), sl36⟩)
    (c36 : PySem.W.codeIn K cd36 "string_count" = true)
    (k36 : PySem.W.keepIn K (.ref f36) = true)
    (a49 : PySem.W.nsIn K mainGlobals "string_at" = some (some (.ref f49)))
    (l49 : K.lookup f49 = some ⟨oc49, od49, .func (PySem.W.fnOf "string_at" "string_at" (defArgs (top 49)) (defBody (top 49)) (defScope (top 49)) .none kV49 doc49 pm49 an49 cd49 ct49), sl49⟩)
    (c49 : PySem.W.codeIn K cd49 "string_at" = true)
    (k49 : PySem.W.keepIn K (.ref f49) = true)
    (a63 : PySem.W.nsIn K mainGlobals "_law_at" = some (some (.ref f63)))
    (l63 : K.lookup f63 = some ⟨oc63, od63, .func (PySem.W.fnOf "_law_at" "_law_at" (defArgs (top 63)) (defBody (top 63)) (defScope (top 63)) .none kV63 doc63 pm63 an63 cd63 ct63), sl63⟩)
    (c63 : PySem.W.codeIn K cd63 "_law_at" = true)
    (k63 : PySem.W.keepIn K (.ref f63) = true)
    (a51 : PySem.W.nsIn K mainGlobals "_law_cell" = some (some (.ref f51)))
    (l51 : K.lookup f51 = some ⟨oc51, od51, .func (PySem.W.fnOf "_law_cell" "_law_cell" (defArgs (top 51)) (defBody (top 51)) (defScope (top 51)) .none kV51 doc51 pm51 an51 cd51 ct51), sl51⟩)
    (c51 : PySem.W.codeIn K cd51 "_law_cell" = true)
    (k51 : PySem.W.keepIn K (.ref f51) = true)
    (a59 : PySem.W.nsIn K mainGlobals "_law_level" = some (some (.ref f59)))
    (l59 : K.lookup f59 = some ⟨oc59, od59, .func (PySem.W.fnOf "_law_level" "_law_level" (defArgs (top 59)) (defBody (top 59)) (defScope (top 59)) .none kV59 doc59 pm59 an59 cd59 ct59), sl59⟩)
    (c59 : PySem.W.codeIn K cd59 "_law_level" = true)
    (k59 : PySem.W.keepIn K (.ref f59) = true)
    (a58 : PySem.W.nsIn K mainGlobals "_law_moved" = some (some (.ref f58)))
    (l58 : K.lookup f58 = some ⟨oc58, od58, .func (PySem.W.fnOf "_law_moved" "_law_moved" (defArgs (top 58)) (defBody (top 58)) (defScope (top 58)) .none kV58 doc58 pm58 an58 cd58 ct58), sl58⟩)
    (c58 : PySem.W.codeIn K cd58 "_law_moved" = true)
    (k58 : PySem.W.keepIn K (.ref f58) = true)
    (a60 : PySem.W.nsIn K mainGlobals "_law_graph" = some (some (.ref f60)))
    (l60 : K.lookup f60 = some ⟨oc60, od60, .func (PySem.W.fnOf "_law_graph" "_law_graph" (defArgs (top 60)) (defBody (top 60)) (defScope (top 60)) .none kV60 doc60 pm60 an60 cd60 ct60), sl60⟩)
    (c60 : PySem.W.codeIn K cd60 "_law_graph" = true)
    (k60 : PySem.W.keepIn K (.ref f60) = true)
    (a53 : PySem.W.nsIn K mainGlobals "_law_arranged" = some (some (.ref f53)))
    (l53 : K.lookup f53 = some ⟨oc53, od53, .func (PySem.W.fnOf "_law_arranged" "_law_arranged" (defArgs (top 53)) (defBody (top 53)) (defScope (top 53)) .none kV53 doc53 pm53 an53 cd53 ct53), sl53⟩)
    (c53 : PySem.W.codeIn K cd53 "_law_arranged" = true)
    (k53 : PySem.W.keepIn K (.ref f53) = true)
    (a52 : PySem.W.nsIn K mainGlobals "_law_values" = some (some (.ref f52)))
    (l52 : K.lookup f52 = some ⟨oc52, od52, .func (PySem.W.fnOf "_law_values" "_law_values" (defArgs (top 52)) (defBody (top 52)) (defScope (top 52)) .none kV52 doc52 pm52 an52 cd52 ct52), sl52⟩)
    (c52 : PySem.W.codeIn K cd52 "_law_values" = true)
    (k52 : PySem.W.keepIn K (.ref f52) = true)
    (a54 : PySem.W.nsIn K mainGlobals "_law_machine" = some (some (.ref f54)))
    (l54 : K.lookup f54 = some ⟨oc54, od54, .func (PySem.W.fnOf "_law_machine" "_law_machine" (defArgs (top 54)) (defBody (top 54)) (defScope (top 54)) .none kV54 doc54 pm54 an54 cd54 ct54), sl54⟩)
    (c54 : PySem.W.codeIn K cd54 "_law_machine" = true)
    (k54 : PySem.W.keepIn K (.ref f54) = true)
    (a20 : PySem.W.nsIn K mainGlobals "has_digits" = some (some (.ref f20)))
    (l20 : K.lookup f20 = some ⟨oc20, od20, .func (PySem.W.fnOf "has_digits" "has_digits" (defArgs (top 20)) (defBody (top 20)) (defScope (top 20)) .none kV20 doc20 pm20 an20 (.ref cc20) ct20), sl20⟩)
    (c20 : PySem.W.codeIn K (.ref cc20) "has_digits" = true)
    (k20 : PySem.W.keepIn K (.ref f20) = true)
    (q20 : K.lookup cc20 = some ⟨ev20, dd20, .fields vs20, es20⟩)
    (v20 : vs20[11]? = some (.ref P20))
    (n20 : K.lookup P20 = none)
    (r20 : ((recsOf q).find? (fun e => e.name == ("has_digits" : Str))).isSome = true)
    (a21 : PySem.W.nsIn K mainGlobals "check_string" = some (some (.ref f21)))
    (l21 : K.lookup f21 = some ⟨oc21, od21, .func (PySem.W.fnOf "check_string" "check_string" (defArgs (top 21)) (defBody (top 21)) (defScope (top 21)) .none kV21 doc21 pm21 an21 cd21 ct21), sl21⟩)
    (c21 : PySem.W.codeIn K cd21 "check_string" = true)
    (k21 : PySem.W.keepIn K (.ref f21) = true)
    (a48 : PySem.W.nsIn K mainGlobals "number_of" = some (some (.ref f48)))
    (l48 : K.lookup f48 = some ⟨oc48, od48, .func (PySem.W.fnOf "number_of" "number_of" (defArgs (top 48)) (defBody (top 48)) (defScope (top 48)) .none kV48 doc48 pm48 an48 cd48 ct48), sl48⟩)
    (c48 : PySem.W.codeIn K cd48 "number_of" = true)
    (k48 : PySem.W.keepIn K (.ref f48) = true)
    (a62 : PySem.W.nsIn K mainGlobals "_law_number" = some (some (.ref f62)))
    (l62 : K.lookup f62 = some ⟨oc62, od62, .func (PySem.W.fnOf "_law_number" "_law_number" (defArgs (top 62)) (defBody (top 62)) (defScope (top 62)) .none kV62 doc62 pm62 an62 cd62 ct62), sl62⟩)
    (c62 : PySem.W.codeIn K cd62 "_law_number" = true)
    (k62 : PySem.W.keepIn K (.ref f62) = true)
    (a15 : PySem.W.nsIn K mainGlobals "is_row" = some (some (.ref f15)))
    (l15 : K.lookup f15 = some ⟨oc15, od15, .func (PySem.W.fnOf "is_row" "is_row" (defArgs (top 15)) (defBody (top 15)) (defScope (top 15)) .none kV15 doc15 pm15 an15 (.ref cc15) ct15), sl15⟩)
    (c15 : PySem.W.codeIn K (.ref cc15) "is_row" = true)
    (k15 : PySem.W.keepIn K (.ref f15) = true)
    (q15 : K.lookup cc15 = some ⟨ev15, dd15, .fields vs15, es15⟩)
    (v15 : vs15[11]? = some (.ref P15))
    (n15 : K.lookup P15 = none)
    (r15 : ((recsOf q).find? (fun e => e.name == ("is_row" : Str))).isSome = true)
    (a14 : PySem.W.nsIn K mainGlobals "is_wide" = some (some (.ref f14)))
    (l14 : K.lookup f14 = some ⟨oc14, od14, .func (PySem.W.fnOf "is_wide" "is_wide" (defArgs (top 14)) (defBody (top 14)) (defScope (top 14)) .none kV14 doc14 pm14 an14 (.ref cc14) ct14), sl14⟩)
    (c14 : PySem.W.codeIn K (.ref cc14) "is_wide" = true)
    (k14 : PySem.W.keepIn K (.ref f14) = true)
    (q14 : K.lookup cc14 = some ⟨ev14, dd14, .fields vs14, es14⟩)
    (v14 : vs14[11]? = some (.ref P14))
    (n14 : K.lookup P14 = none)
    (r14 : ((recsOf q).find? (fun e => e.name == ("is_wide" : Str))).isSome = true)
    (a16 : PySem.W.nsIn K mainGlobals "is_machine" = some (some (.ref f16)))
    (l16 : K.lookup f16 = some ⟨oc16, od16, .func (PySem.W.fnOf "is_machine" "is_machine" (defArgs (top 16)) (defBody (top 16)) (defScope (top 16)) .none kV16 doc16 pm16 an16 cd16 ct16), sl16⟩)
    (c16 : PySem.W.codeIn K cd16 "is_machine" = true)
    (k16 : PySem.W.keepIn K (.ref f16) = true)
    (a19 : PySem.W.nsIn K mainGlobals "check_machine" = some (some (.ref f19)))
    (l19 : K.lookup f19 = some ⟨oc19, od19, .func (PySem.W.fnOf "check_machine" "check_machine" (defArgs (top 19)) (defBody (top 19)) (defScope (top 19)) .none kV19 doc19 pm19 an19 cd19 ct19), sl19⟩)
    (c19 : PySem.W.codeIn K cd19 "check_machine" = true)
    (k19 : PySem.W.keepIn K (.ref f19) = true)
    (a30 : PySem.W.nsIn K mainGlobals "letters_of" = some (some (.ref f30)))
    (l30 : K.lookup f30 = some ⟨oc30, od30, .func (PySem.W.fnOf "letters_of" "letters_of" (defArgs (top 30)) (defBody (top 30)) (defScope (top 30)) .none kV30 doc30 pm30 an30 cd30 ct30), sl30⟩)
    (c30 : PySem.W.codeIn K cd30 "letters_of" = true)
    (k30 : PySem.W.keepIn K (.ref f30) = true)
    (a31 : PySem.W.nsIn K mainGlobals "has_letters" = some (some (.ref f31)))
    (l31 : K.lookup f31 = some ⟨oc31, od31, .func (PySem.W.fnOf "has_letters" "has_letters" (defArgs (top 31)) (defBody (top 31)) (defScope (top 31)) .none kV31 doc31 pm31 an31 (.ref cc31) ct31), sl31⟩)
    (c31 : PySem.W.codeIn K (.ref cc31) "has_letters" = true)
    (k31 : PySem.W.keepIn K (.ref f31) = true)
    (q31 : K.lookup cc31 = some ⟨ev31, dd31, .fields vs31, es31⟩)
    (v31 : vs31[11]? = some (.ref P31))
    (n31 : K.lookup P31 = none)
    (r31 : ((recsOf q).find? (fun e => e.name == ("has_letters" : Str))).isSome = true)
    (a32 : PySem.W.nsIn K mainGlobals "check_word" = some (some (.ref f32)))
    (l32 : K.lookup f32 = some ⟨oc32, od32, .func (PySem.W.fnOf "check_word" "check_word" (defArgs (top 32)) (defBody (top 32)) (defScope (top 32)) .none kV32 doc32 pm32 an32 cd32 ct32), sl32⟩)
    (c32 : PySem.W.codeIn K cd32 "check_word" = true)
    (k32 : PySem.W.keepIn K (.ref f32) = true)
    (a18 : PySem.W.nsIn K mainGlobals "check_wide" = some (some (.ref f18)))
    (l18 : K.lookup f18 = some ⟨oc18, od18, .func (PySem.W.fnOf "check_wide" "check_wide" (defArgs (top 18)) (defBody (top 18)) (defScope (top 18)) .none kV18 doc18 pm18 an18 cd18 ct18), sl18⟩)
    (c18 : PySem.W.codeIn K cd18 "check_wide" = true)
    (k18 : PySem.W.keepIn K (.ref f18) = true)
    (a22 : PySem.W.nsIn K mainGlobals "arranged" = some (some (.ref f22)))
    (l22 : K.lookup f22 = some ⟨oc22, od22, .func (PySem.W.fnOf "arranged" "arranged" (defArgs (top 22)) (defBody (top 22)) (defScope (top 22)) .none kV22 doc22 pm22 an22 cd22 ct22), sl22⟩)
    (c22 : PySem.W.codeIn K cd22 "arranged" = true)
    (k22 : PySem.W.keepIn K (.ref f22) = true)
    (a24 : PySem.W.nsIn K mainGlobals "undone_row" = some (some (.ref f24)))
    (l24 : K.lookup f24 = some ⟨oc24, od24, .func (PySem.W.fnOf "undone_row" "undone_row" (defArgs (top 24)) (defBody (top 24)) (defScope (top 24)) .none kV24 doc24 pm24 an24 cd24 ct24), sl24⟩)
    (c24 : PySem.W.codeIn K cd24 "undone_row" = true)
    (k24 : PySem.W.keepIn K (.ref f24) = true)
    (a23 : PySem.W.nsIn K mainGlobals "undoing" = some (some (.ref f23)))
    (l23 : K.lookup f23 = some ⟨oc23, od23, .func (PySem.W.fnOf "undoing" "undoing" (defArgs (top 23)) (defBody (top 23)) (defScope (top 23)) .none kV23 doc23 pm23 an23 cd23 ct23), sl23⟩)
    (c23 : PySem.W.codeIn K cd23 "undoing" = true)
    (k23 : PySem.W.keepIn K (.ref f23) = true)
    (a34 : PySem.W.nsIn K mainGlobals "steps_of" = some (some (.ref f34)))
    (l34 : K.lookup f34 = some ⟨oc34, od34, .func (PySem.W.fnOf "steps_of" "steps_of" (defArgs (top 34)) (defBody (top 34)) (defScope (top 34)) .none kV34 doc34 pm34 an34 cd34 ct34), sl34⟩)
    (c34 : PySem.W.codeIn K cd34 "steps_of" = true)
    (k34 : PySem.W.keepIn K (.ref f34) = true)
    (a37 : PySem.W.nsIn K mainGlobals "letter_turns" = some (some (.ref f37)))
    (l37 : K.lookup f37 = some ⟨oc37, od37, .func (PySem.W.fnOf "letter_turns" "letter_turns" (defArgs (top 37)) (defBody (top 37)) (defScope (top 37)) .none kV37 doc37 pm37 an37 cd37 ct37), sl37⟩)
    (c37 : PySem.W.codeIn K cd37 "letter_turns" = true)
    (k37 : PySem.W.keepIn K (.ref f37) = true)
    (a39 : PySem.W.nsIn K mainGlobals "followed" = some (some (.ref f39)))
    (l39 : K.lookup f39 = some ⟨oc39, od39, .func (PySem.W.fnOf "followed" "followed" (defArgs (top 39)) (defBody (top 39)) (defScope (top 39)) .none kV39 doc39 pm39 an39 cd39 ct39), sl39⟩)
    (c39 : PySem.W.codeIn K cd39 "followed" = true)
    (k39 : PySem.W.keepIn K (.ref f39) = true)
    (a38 : PySem.W.nsIn K mainGlobals "turned" = some (some (.ref f38)))
    (l38 : K.lookup f38 = some ⟨oc38, od38, .func (PySem.W.fnOf "turned" "turned" (defArgs (top 38)) (defBody (top 38)) (defScope (top 38)) .none kV38 doc38 pm38 an38 cd38 ct38), sl38⟩)
    (c38 : PySem.W.codeIn K cd38 "turned" = true)
    (k38 : PySem.W.keepIn K (.ref f38) = true)
    (a41 : PySem.W.nsIn K mainGlobals "turns_of" = some (some (.ref f41)))
    (l41 : K.lookup f41 = some ⟨oc41, od41, .func (PySem.W.fnOf "turns_of" "turns_of" (defArgs (top 41)) (defBody (top 41)) (defScope (top 41)) .none kV41 doc41 pm41 an41 cd41 ct41), sl41⟩)
    (c41 : PySem.W.codeIn K cd41 "turns_of" = true)
    (k41 : PySem.W.keepIn K (.ref f41) = true)
    (a47 : PySem.W.nsIn K mainGlobals "level_graph" = some (some (.ref f47)))
    (l47 : K.lookup f47 = some ⟨oc47, od47, .func (PySem.W.fnOf "level_graph" "level_graph" (defArgs (top 47)) (defBody (top 47)) (defScope (top 47)) .none kV47 doc47 pm47 an47 cd47 ct47), sl47⟩)
    (c47 : PySem.W.codeIn K cd47 "level_graph" = true)
    (k47 : PySem.W.keepIn K (.ref f47) = true)
    (a61 : PySem.W.nsIn K mainGlobals "_law_told" = some (some (.ref f61)))
    (l61 : K.lookup f61 = some ⟨oc61, od61, .func (PySem.W.fnOf "_law_told" "_law_told" (defArgs (top 61)) (defBody (top 61)) (defScope (top 61)) .none kV61 doc61 pm61 an61 cd61 ct61), sl61⟩)
    (c61 : PySem.W.codeIn K cd61 "_law_told" = true)
    (k61 : PySem.W.keepIn K (.ref f61) = true)
    (a57 : PySem.W.nsIn K mainGlobals "_law_word" = some (some (.ref f57)))
    (l57 : K.lookup f57 = some ⟨oc57, od57, .func (PySem.W.fnOf "_law_word" "_law_word" (defArgs (top 57)) (defBody (top 57)) (defScope (top 57)) .none kV57 doc57 pm57 an57 cd57 ct57), sl57⟩)
    (c57 : PySem.W.codeIn K cd57 "_law_word" = true)
    (k57 : PySem.W.keepIn K (.ref f57) = true)
    (a46 : PySem.W.nsIn K mainGlobals "is_graph" = some (some (.ref f46)))
    (l46 : K.lookup f46 = some ⟨oc46, od46, .func (PySem.W.fnOf "is_graph" "is_graph" (defArgs (top 46)) (defBody (top 46)) (defScope (top 46)) .none kV46 doc46 pm46 an46 (.ref cc46) ct46), sl46⟩)
    (c46 : PySem.W.codeIn K (.ref cc46) "is_graph" = true)
    (k46 : PySem.W.keepIn K (.ref f46) = true)
    (q46 : K.lookup cc46 = some ⟨ev46, dd46, .fields vs46, es46⟩)
    (v46 : vs46[11]? = some (.ref P46))
    (n46 : K.lookup P46 = none)
    (r46 : ((recsOf q).find? (fun e => e.name == ("is_graph" : Str))).isSome = true)
    (a64 : PySem.W.nsIn K mainGlobals "law" = some (some (.ref f64)))
    (l64 : K.lookup f64 = some ⟨oc64, od64, .func (PySem.W.fnOf "law" "law" (defArgs (top 64)) (defBody (top 64)) (defScope (top 64)) .none kV64 doc64 pm64 an64 cd64 ct64), sl64⟩)
    (c64 : PySem.W.codeIn K cd64 "law" = true)
    (k64 : PySem.W.keepIn K (.ref f64) = true)
    (math : ∀ ns : List Int, ns.length ≤ most → (∀ z ∈ ns, Builtin.Int.intBits z ≤ 1048576) → F_law [.list (ns.map .int)] = some (.ok (.bool true))) :
    ZAtG l w K 12 most mg fa h := by
  have e := hfa.symm.trans (PySem.W.mg_of X G a64)
  cases e
  have H_m_BadNumber : ∀ q ∈ l_m_BadNumber, PySem.W.exmOne K (cv mg q.1) (cv mg "BadNumber") = some q.2 := fun q hq => by unfold l_m_BadNumber at hq; simp only [List.mem_cons, List.not_mem_nil, or_false] at hq; rcases hq with rfl | rfl | rfl | rfl | rfl | rfl <;> simp only [cv, PySem.W.mg_of X G e0_BadNumber, PySem.W.mg_of X G e0_BadNumber, PySem.W.mg_of X G e0_LeafError, PySem.W.mg_of X G e0_NotMachine, PySem.W.mg_of X G e0_NotString, PySem.W.mg_of X G e0_NotWord, PySem.W.mg_of X G e0_TooLarge, Option.getD_some, m_BadNumber_BadNumber, m_BadNumber_LeafError, m_BadNumber_NotMachine, m_BadNumber_NotString, m_BadNumber_NotWord, m_BadNumber_TooLarge]
  have H_m_NotMachine : ∀ q ∈ l_m_NotMachine, PySem.W.exmOne K (cv mg q.1) (cv mg "NotMachine") = some q.2 := fun q hq => by unfold l_m_NotMachine at hq; simp only [List.mem_cons, List.not_mem_nil, or_false] at hq; rcases hq with rfl | rfl | rfl | rfl | rfl | rfl <;> simp only [cv, PySem.W.mg_of X G e0_NotMachine, PySem.W.mg_of X G e0_BadNumber, PySem.W.mg_of X G e0_LeafError, PySem.W.mg_of X G e0_NotMachine, PySem.W.mg_of X G e0_NotString, PySem.W.mg_of X G e0_NotWord, PySem.W.mg_of X G e0_TooLarge, Option.getD_some, m_NotMachine_BadNumber, m_NotMachine_LeafError, m_NotMachine_NotMachine, m_NotMachine_NotString, m_NotMachine_NotWord, m_NotMachine_TooLarge]
  have H_m_NotString : ∀ q ∈ l_m_NotString, PySem.W.exmOne K (cv mg q.1) (cv mg "NotString") = some q.2 := fun q hq => by unfold l_m_NotString at hq; simp only [List.mem_cons, List.not_mem_nil, or_false] at hq; rcases hq with rfl | rfl | rfl | rfl | rfl | rfl <;> simp only [cv, PySem.W.mg_of X G e0_NotString, PySem.W.mg_of X G e0_BadNumber, PySem.W.mg_of X G e0_LeafError, PySem.W.mg_of X G e0_NotMachine, PySem.W.mg_of X G e0_NotString, PySem.W.mg_of X G e0_NotWord, PySem.W.mg_of X G e0_TooLarge, Option.getD_some, m_NotString_BadNumber, m_NotString_LeafError, m_NotString_NotMachine, m_NotString_NotString, m_NotString_NotWord, m_NotString_TooLarge]
  have H_m_NotWord : ∀ q ∈ l_m_NotWord, PySem.W.exmOne K (cv mg q.1) (cv mg "NotWord") = some q.2 := fun q hq => by unfold l_m_NotWord at hq; simp only [List.mem_cons, List.not_mem_nil, or_false] at hq; rcases hq with rfl | rfl | rfl | rfl | rfl | rfl <;> simp only [cv, PySem.W.mg_of X G e0_NotWord, PySem.W.mg_of X G e0_BadNumber, PySem.W.mg_of X G e0_LeafError, PySem.W.mg_of X G e0_NotMachine, PySem.W.mg_of X G e0_NotString, PySem.W.mg_of X G e0_NotWord, PySem.W.mg_of X G e0_TooLarge, Option.getD_some, m_NotWord_BadNumber, m_NotWord_LeafError, m_NotWord_NotMachine, m_NotWord_NotString, m_NotWord_NotWord, m_NotWord_TooLarge]
  have H_m_TooLarge : ∀ q ∈ l_m_TooLarge, PySem.W.exmOne K (cv mg q.1) (cv mg "TooLarge") = some q.2 := fun q hq => by unfold l_m_TooLarge at hq; simp only [List.mem_cons, List.not_mem_nil, or_false] at hq; rcases hq with rfl | rfl | rfl | rfl | rfl | rfl <;> simp only [cv, PySem.W.mg_of X G e0_TooLarge, PySem.W.mg_of X G e0_BadNumber, PySem.W.mg_of X G e0_LeafError, PySem.W.mg_of X G e0_NotMachine, PySem.W.mg_of X G e0_NotString, PySem.W.mg_of X G e0_NotWord, PySem.W.mg_of X G e0_TooLarge, Option.getD_some, m_TooLarge_BadNumber, m_TooLarge_LeafError, m_TooLarge_NotMachine, m_TooLarge_NotString, m_TooLarge_NotWord, m_TooLarge_TooLarge]
  have F : Fc K mg := { b_all := PySem.W.mg_none_of X G b_all, b_divmod := PySem.W.mg_none_of X G b_divmod, b_enumerate := PySem.W.mg_none_of X G b_enumerate, b_int := PySem.W.mg_none_of X G b_int, b_len := PySem.W.mg_none_of X G b_len, b_list := PySem.W.mg_none_of X G b_list, b_range := PySem.W.mg_none_of X G b_range, b_repr := PySem.W.mg_none_of X G b_repr, b_sorted := PySem.W.mg_none_of X G b_sorted, b_str := PySem.W.mg_none_of X G b_str, b_tuple := PySem.W.mg_none_of X G b_tuple, b_zip := PySem.W.mg_none_of X G b_zip, g_DIGITS := ⟨_, PySem.W.mg_of X G g_DIGITS⟩, g_GREATEST_LEVEL := ⟨_, PySem.W.mg_of X G g_GREATEST_LEVEL⟩, g_LARGE_LETTERS := ⟨_, PySem.W.mg_of X G g_LARGE_LETTERS⟩, g_LEAST_DIGITS := ⟨_, PySem.W.mg_of X G g_LEAST_DIGITS⟩, g_LETTERS_IN_ORDER := ⟨_, PySem.W.mg_of X G g_LETTERS_IN_ORDER⟩, g_LONGEST_STRING := ⟨_, PySem.W.mg_of X G g_LONGEST_STRING⟩, g_LONGEST_WORD := ⟨_, PySem.W.mg_of X G g_LONGEST_WORD⟩, g_MOST_DIGITS := ⟨_, PySem.W.mg_of X G g_MOST_DIGITS⟩, g_MOST_NUMBERS := ⟨_, PySem.W.mg_of X G g_MOST_NUMBERS⟩, g_MOST_ROWS := ⟨_, PySem.W.mg_of X G g_MOST_ROWS⟩, g_MOST_STATES := ⟨_, PySem.W.mg_of X G g_MOST_STATES⟩, g_MOST_WIDE_STATES := ⟨_, PySem.W.mg_of X G g_MOST_WIDE_STATES⟩, g_SMALL_LETTERS := ⟨_, PySem.W.mg_of X G g_SMALL_LETTERS⟩, x_BadNumber := ⟨C_BadNumber, PySem.W.mg_of X G e0_BadNumber, e1_BadNumber, e2_BadNumber, e3_BadNumber, e4_BadNumber⟩, x_NotMachine := ⟨C_NotMachine, PySem.W.mg_of X G e0_NotMachine, e1_NotMachine, e2_NotMachine, e3_NotMachine, e4_NotMachine⟩, x_NotString := ⟨C_NotString, PySem.W.mg_of X G e0_NotString, e1_NotString, e2_NotString, e3_NotString, e4_NotString⟩, x_NotWord := ⟨C_NotWord, PySem.W.mg_of X G e0_NotWord, e1_NotWord, e2_NotWord, e3_NotWord, e4_NotWord⟩, x_TooLarge := ⟨C_TooLarge, PySem.W.mg_of X G e0_TooLarge, e1_TooLarge, e2_TooLarge, e3_TooLarge, e4_TooLarge⟩, m_BadNumber := H_m_BadNumber, m_NotMachine := H_m_NotMachine, m_NotString := H_m_NotString, m_NotWord := H_m_NotWord, m_TooLarge := H_m_TooLarge }
  obtain ⟨d20, hd20⟩ := Option.isSome_iff_exists.mp r20
  have T20 := PySem.W.tab_of T X hd20 (tabIn_of a20 l20 rfl q20 v20)
  obtain ⟨d15, hd15⟩ := Option.isSome_iff_exists.mp r15
  have T15 := PySem.W.tab_of T X hd15 (tabIn_of a15 l15 rfl q15 v15)
  obtain ⟨d14, hd14⟩ := Option.isSome_iff_exists.mp r14
  have T14 := PySem.W.tab_of T X hd14 (tabIn_of a14 l14 rfl q14 v14)
  obtain ⟨d31, hd31⟩ := Option.isSome_iff_exists.mp r31
  have T31 := PySem.W.tab_of T X hd31 (tabIn_of a31 l31 rfl q31 v31)
  obtain ⟨d46, hd46⟩ := Option.isSome_iff_exists.mp r46
  have T46 := PySem.W.tab_of T X hd46 (tabIn_of a46 l46 rfl q46 v46)
  refine ⟨[(cc20, P20), (cc15, P15), (cc14, P14), (cc31, P31), (cc46, P46)], F_law, PySem.W.fnOf "law" "law" (defArgs (top 64)) (defBody (top 64)) (defScope (top 64)) .none kV64 doc64 pm64 an64 cd64 ct64, ?_, ?_, math, (fun us hl => match us, hl with | [_], _ => rfl), fun base kb nb TB => ?_⟩
  · intro p hp; simp only [List.mem_cons, List.not_mem_nil, or_false] at hp; rcases hp with rfl | rfl | rfl | rfl | rfl
    · exact T20
    · exact T15
    · exact T14
    · exact T31
    · exact T46
  · intro p hp; simp only [List.mem_cons, List.not_mem_nil, or_false] at hp; rcases hp with rfl | rfl | rfl | rfl | rfl
    · exact n20
    · exact n15
    · exact n14
    · exact n31
    · exact n46
  · skip; have B20 := TB (cc20, P20) (by simp); have B15 := TB (cc15, P15) (by simp); have B14 := TB (cc14, P14) (by simp); have B31 := TB (cc31, P31) (by simp); have B46 := TB (cc46, P46) (by simp)
    have D_check_count : Df l.prog w base ⟨K, mg, ([(cc20, P20), (cc15, P15), (cc14, P14), (cc31, P31), (cc46, P46)] : List (Addr × Addr)).map (·.2)⟩ "check_count" 1 1 F_check_count := df_check_count F  (PySem.W.mg_of X G a17) l17 c17 k17
    have D_string_count : Df l.prog w base ⟨K, mg, ([(cc20, P20), (cc15, P15), (cc14, P14), (cc31, P31), (cc46, P46)] : List (Addr × Addr)).map (·.2)⟩ "string_count" 1 2 F_string_count := df_string_count F  (PySem.W.mg_of X G a36) l36 c36 k36
    have D_string_at : Df l.prog w base ⟨K, mg, ([(cc20, P20), (cc15, P15), (cc14, P14), (cc31, P31), (cc46, P46)] : List (Addr × Addr)).map (·.2)⟩ "string_at" 2 3 F_string_at := df_string_at F D_check_count D_string_count (PySem.W.mg_of X G a49) l49 c49 k49
    have D__law_at : Df l.prog w base ⟨K, mg, ([(cc20, P20), (cc15, P15), (cc14, P14), (cc31, P31), (cc46, P46)] : List (Addr × Addr)).map (·.2)⟩ "_law_at" 3 3 F__law_at := df__law_at F D_string_at (PySem.W.mg_of X G a63) l63 c63 k63
    have D__law_cell : Df l.prog w base ⟨K, mg, ([(cc20, P20), (cc15, P15), (cc14, P14), (cc31, P31), (cc46, P46)] : List (Addr × Addr)).map (·.2)⟩ "_law_cell" 1 2 F__law_cell := df__law_cell F  (PySem.W.mg_of X G a51) l51 c51 k51
    have D__law_level : Df l.prog w base ⟨K, mg, ([(cc20, P20), (cc15, P15), (cc14, P14), (cc31, P31), (cc46, P46)] : List (Addr × Addr)).map (·.2)⟩ "_law_level" 1 2 F__law_level := df__law_level F  (PySem.W.mg_of X G a59) l59 c59 k59
    have D__law_moved : Df l.prog w base ⟨K, mg, ([(cc20, P20), (cc15, P15), (cc14, P14), (cc31, P31), (cc46, P46)] : List (Addr × Addr)).map (·.2)⟩ "_law_moved" 1 3 F__law_moved := df__law_moved F  (PySem.W.mg_of X G a58) l58 c58 k58
    have D__law_graph : Df l.prog w base ⟨K, mg, ([(cc20, P20), (cc15, P15), (cc14, P14), (cc31, P31), (cc46, P46)] : List (Addr × Addr)).map (·.2)⟩ "_law_graph" 2 3 F__law_graph := df__law_graph F D__law_level D__law_moved (PySem.W.mg_of X G a60) l60 c60 k60
    have D__law_arranged : Df l.prog w base ⟨K, mg, ([(cc20, P20), (cc15, P15), (cc14, P14), (cc31, P31), (cc46, P46)] : List (Addr × Addr)).map (·.2)⟩ "_law_arranged" 1 2 F__law_arranged := df__law_arranged F  (PySem.W.mg_of X G a53) l53 c53 k53
    have D__law_values : Df l.prog w base ⟨K, mg, ([(cc20, P20), (cc15, P15), (cc14, P14), (cc31, P31), (cc46, P46)] : List (Addr × Addr)).map (·.2)⟩ "_law_values" 1 3 F__law_values := df__law_values F  (PySem.W.mg_of X G a52) l52 c52 k52
    have D__law_machine : Df l.prog w base ⟨K, mg, ([(cc20, P20), (cc15, P15), (cc14, P14), (cc31, P31), (cc46, P46)] : List (Addr × Addr)).map (·.2)⟩ "_law_machine" 2 4 F__law_machine := df__law_machine F D__law_values D__law_arranged (PySem.W.mg_of X G a54) l54 c54 k54
    have D_has_digits : Df l.prog w base ⟨K, mg, ([(cc20, P20), (cc15, P15), (cc14, P14), (cc31, P31), (cc46, P46)] : List (Addr × Addr)).map (·.2)⟩ "has_digits" 2 2 F_has_digits := df_has_digits F  (PP_ := P20) (by simp) B20 rfl (PySem.W.mg_of X G a20) l20 c20 k20
    have D_check_string : Df l.prog w base ⟨K, mg, ([(cc20, P20), (cc15, P15), (cc14, P14), (cc31, P31), (cc46, P46)] : List (Addr × Addr)).map (·.2)⟩ "check_string" 3 2 F_check_string := df_check_string F D_has_digits (PySem.W.mg_of X G a21) l21 c21 k21
    have D_number_of : Df l.prog w base ⟨K, mg, ([(cc20, P20), (cc15, P15), (cc14, P14), (cc31, P31), (cc46, P46)] : List (Addr × Addr)).map (·.2)⟩ "number_of" 4 2 F_number_of := df_number_of F D_check_count D_check_string (PySem.W.mg_of X G a48) l48 c48 k48
    have D__law_number : Df l.prog w base ⟨K, mg, ([(cc20, P20), (cc15, P15), (cc14, P14), (cc31, P31), (cc46, P46)] : List (Addr × Addr)).map (·.2)⟩ "_law_number" 5 2 F__law_number := df__law_number F D_number_of (PySem.W.mg_of X G a62) l62 c62 k62
    have D_is_row : Df l.prog w base ⟨K, mg, ([(cc20, P20), (cc15, P15), (cc14, P14), (cc31, P31), (cc46, P46)] : List (Addr × Addr)).map (·.2)⟩ "is_row" 2 3 F_is_row := df_is_row F  (PP_ := P15) (by simp) B15 rfl (PySem.W.mg_of X G a15) l15 c15 k15
    have D_is_wide : Df l.prog w base ⟨K, mg, ([(cc20, P20), (cc15, P15), (cc14, P14), (cc31, P31), (cc46, P46)] : List (Addr × Addr)).map (·.2)⟩ "is_wide" 4 1 F_is_wide := df_is_wide F D_is_row (PP_ := P14) (by simp) B14 rfl (PySem.W.mg_of X G a14) l14 c14 k14
    have D_is_machine : Df l.prog w base ⟨K, mg, ([(cc20, P20), (cc15, P15), (cc14, P14), (cc31, P31), (cc46, P46)] : List (Addr × Addr)).map (·.2)⟩ "is_machine" 5 1 F_is_machine := df_is_machine F D_is_wide (PySem.W.mg_of X G a16) l16 c16 k16
    have D_check_machine : Df l.prog w base ⟨K, mg, ([(cc20, P20), (cc15, P15), (cc14, P14), (cc31, P31), (cc46, P46)] : List (Addr × Addr)).map (·.2)⟩ "check_machine" 6 1 F_check_machine := df_check_machine F D_is_machine (PySem.W.mg_of X G a19) l19 c19 k19
    have D_letters_of : Df l.prog w base ⟨K, mg, ([(cc20, P20), (cc15, P15), (cc14, P14), (cc31, P31), (cc46, P46)] : List (Addr × Addr)).map (·.2)⟩ "letters_of" 1 1 F_letters_of := df_letters_of F  (PySem.W.mg_of X G a30) l30 c30 k30
    have D_has_letters : Df l.prog w base ⟨K, mg, ([(cc20, P20), (cc15, P15), (cc14, P14), (cc31, P31), (cc46, P46)] : List (Addr × Addr)).map (·.2)⟩ "has_letters" 2 2 F_has_letters := df_has_letters F D_letters_of (PP_ := P31) (by simp) B31 rfl (PySem.W.mg_of X G a31) l31 c31 k31
    have D_check_word : Df l.prog w base ⟨K, mg, ([(cc20, P20), (cc15, P15), (cc14, P14), (cc31, P31), (cc46, P46)] : List (Addr × Addr)).map (·.2)⟩ "check_word" 7 2 F_check_word := df_check_word F D_check_machine D_has_letters (PySem.W.mg_of X G a32) l32 c32 k32
    have D_check_wide : Df l.prog w base ⟨K, mg, ([(cc20, P20), (cc15, P15), (cc14, P14), (cc31, P31), (cc46, P46)] : List (Addr × Addr)).map (·.2)⟩ "check_wide" 5 1 F_check_wide := df_check_wide F D_is_wide (PySem.W.mg_of X G a18) l18 c18 k18
    have D_arranged : Df l.prog w base ⟨K, mg, ([(cc20, P20), (cc15, P15), (cc14, P14), (cc31, P31), (cc46, P46)] : List (Addr × Addr)).map (·.2)⟩ "arranged" 1 2 F_arranged := df_arranged F  (PySem.W.mg_of X G a22) l22 c22 k22
    have D_undone_row : Df l.prog w base ⟨K, mg, ([(cc20, P20), (cc15, P15), (cc14, P14), (cc31, P31), (cc46, P46)] : List (Addr × Addr)).map (·.2)⟩ "undone_row" 2 1 F_undone_row := df_undone_row F D_arranged (PySem.W.mg_of X G a24) l24 c24 k24
    have D_undoing : Df l.prog w base ⟨K, mg, ([(cc20, P20), (cc15, P15), (cc14, P14), (cc31, P31), (cc46, P46)] : List (Addr × Addr)).map (·.2)⟩ "undoing" 6 1 F_undoing := df_undoing F D_check_wide D_undone_row (PySem.W.mg_of X G a23) l23 c23 k23
    have D_steps_of : Df l.prog w base ⟨K, mg, ([(cc20, P20), (cc15, P15), (cc14, P14), (cc31, P31), (cc46, P46)] : List (Addr × Addr)).map (·.2)⟩ "steps_of" 7 1 F_steps_of := df_steps_of F D_undoing (PySem.W.mg_of X G a34) l34 c34 k34
    have D_letter_turns : Df l.prog w base ⟨K, mg, ([(cc20, P20), (cc15, P15), (cc14, P14), (cc31, P31), (cc46, P46)] : List (Addr × Addr)).map (·.2)⟩ "letter_turns" 8 2 F_letter_turns := df_letter_turns F D_steps_of (PySem.W.mg_of X G a37) l37 c37 k37
    have D_followed : Df l.prog w base ⟨K, mg, ([(cc20, P20), (cc15, P15), (cc14, P14), (cc31, P31), (cc46, P46)] : List (Addr × Addr)).map (·.2)⟩ "followed" 1 2 F_followed := df_followed F  (PySem.W.mg_of X G a39) l39 c39 k39
    have D_turned : Df l.prog w base ⟨K, mg, ([(cc20, P20), (cc15, P15), (cc14, P14), (cc31, P31), (cc46, P46)] : List (Addr × Addr)).map (·.2)⟩ "turned" 2 2 F_turned := df_turned F D_followed (PySem.W.mg_of X G a38) l38 c38 k38
    have D_turns_of : Df l.prog w base ⟨K, mg, ([(cc20, P20), (cc15, P15), (cc14, P14), (cc31, P31), (cc46, P46)] : List (Addr × Addr)).map (·.2)⟩ "turns_of" 9 3 F_turns_of := df_turns_of F D_letter_turns D_turned (PySem.W.mg_of X G a41) l41 c41 k41
    have D_level_graph : Df l.prog w base ⟨K, mg, ([(cc20, P20), (cc15, P15), (cc14, P14), (cc31, P31), (cc46, P46)] : List (Addr × Addr)).map (·.2)⟩ "level_graph" 10 3 F_level_graph := df_level_graph F D_check_machine D_check_word D_string_count D_turns_of (PySem.W.mg_of X G a47) l47 c47 k47
    have D__law_told : Df l.prog w base ⟨K, mg, ([(cc20, P20), (cc15, P15), (cc14, P14), (cc31, P31), (cc46, P46)] : List (Addr × Addr)).map (·.2)⟩ "_law_told" 11 3 F__law_told := df__law_told F D_level_graph (PySem.W.mg_of X G a61) l61 c61 k61
    have D__law_word : Df l.prog w base ⟨K, mg, ([(cc20, P20), (cc15, P15), (cc14, P14), (cc31, P31), (cc46, P46)] : List (Addr × Addr)).map (·.2)⟩ "_law_word" 2 3 F__law_word := df__law_word F D__law_values (PySem.W.mg_of X G a57) l57 c57 k57
    have D_is_graph : Df l.prog w base ⟨K, mg, ([(cc20, P20), (cc15, P15), (cc14, P14), (cc31, P31), (cc46, P46)] : List (Addr × Addr)).map (·.2)⟩ "is_graph" 2 1 F_is_graph := df_is_graph F  (PP_ := P46) (by simp) B46 rfl (PySem.W.mg_of X G a46) l46 c46 k46
    exact df_law F D__law_cell D__law_machine D__law_word D__law_told D_is_graph D__law_graph D__law_level D__law_at D__law_number (PySem.W.mg_of X G a64) l64 c64 k64
def cases_ := "b_all b_divmod b_enumerate b_int b_len b_list b_range b_repr b_sorted b_str b_tuple b_zip g_DIGITS g_GREATEST_LEVEL g_LARGE_LETTERS g_LEAST_DIGITS g_LETTERS_IN_ORDER g_LONGEST_STRING g_LONGEST_WORD g_MOST_DIGITS g_MOST_NUMBERS g_MOST_ROWS g_MOST_STATES g_MOST_WIDE_STATES g_SMALL_LETTERS e0_BadNumber e1_BadNumber e2_BadNumber e3_BadNumber e4_BadNumber e0_LeafError e1_LeafError e2_LeafError e3_LeafError e4_LeafError e0_NotMachine e1_NotMachine e2_NotMachine e3_NotMachine e4_NotMachine e0_NotString e1_NotString e2_NotString e3_NotString e4_NotString e0_NotWord e1_NotWord e2_NotWord e3_NotWord e4_NotWord e0_TooLarge e1_TooLarge e2_TooLarge e3_TooLarge e4_TooLarge m_BadNumber_BadNumber m_BadNumber_LeafError m_BadNumber_NotMachine m_BadNumber_NotString m_BadNumber_NotWord m_BadNumber_TooLarge m_NotMachine_BadNumber m_NotMachine_LeafError m_NotMachine_NotMachine m_NotMachine_NotString m_NotMachine_NotWord m_NotMachine_TooLarge m_NotString_BadNumber m_NotString_LeafError m_NotString_NotMachine m_NotString_NotString m_NotString_NotWord m_NotString_TooLarge m_NotWord_BadNumber m_NotWord_LeafError m_NotWord_NotMachine m_NotWord_NotString m_NotWord_NotWord m_NotWord_TooLarge m_TooLarge_BadNumber m_TooLarge_LeafError m_TooLarge_NotMachine m_TooLarge_NotString m_TooLarge_NotWord m_TooLarge_TooLarge a17 l17 c17 k17 a36 l36 c36 k36 a49 l49 c49 k49 a63 l63 c63 k63 a51 l51 c51 k51 a59 l59 c59 k59 a58 l58 c58 k58 a60 l60 c60 k60 a53 l53 c53 k53 a52 l52 c52 k52 a54 l54 c54 k54 a20 l20 c20 k20 q20 v20 n20 r20 a21 l21 c21 k21 a48 l48 c48 k48 a62 l62 c62 k62 a15 l15 c15 k15 q15 v15 n15 r15 a14 l14 c14 k14 q14 v14 n14 r14 a16 l16 c16 k16 a19 l19 c19 k19 a30 l30 c30 k30 a31 l31 c31 k31 q31 v31 n31 r31 a32 l32 c32 k32 a18 l18 c18 k18 a22 l22 c22 k22 a24 l24 c24 k24 a23 l23 c23 k23 a34 l34 c34 k34 a37 l37 c37 k37 a39 l39 c39 k39 a38 l38 c38 k38 a41 l41 c41 k41 a47 l47 c47 k47 a61 l61 c61 k61 a57 l57 c57 k57 a46 l46 c46 k46 q46 v46 n46 r46 a64 l64 c64 k64"
end D

set_option Elab.async false
set_option linter.all false
set_option maxRecDepth 100000
set_option maxHeartbeats 4000000
namespace Z
open PySem PySem.Spec PyProof.Rows L2
mutual
theorem eqv_self : ∀ d : PyData, d.canLay0 = true → PyData.eqv d d = true
  | .none, _ => by simp [PyData.eqv]
  | .bool b, _ => by simp [PyData.eqv]
  | .int i, _ => by simp [PyData.eqv]
  | .str s, _ => by simp [PyData.eqv]
  | .list ds, h => by
    simp only [PyData.eqv]
    exact eqvAll_self ds (by simpa [PyData.canLay0] using h)
  | .tuple ds, h => by
    simp only [PyData.eqv]
    exact eqvAll_self ds (by simpa [PyData.canLay0] using h)
  | .dict _, h => by simp [PyData.canLay0] at h
theorem eqvAll_self : ∀ ds : List PyData, PyData.canLayAll0 ds = true → PyData.eqvAll ds ds = true
  | [], _ => by simp [PyData.eqvAll]
  | d :: ds, h => by
    have h' : d.canLay0 = true ∧ PyData.canLayAll0 ds = true := by simpa [PyData.canLayAll0] using h
    simp only [PyData.eqvAll, eqv_self d h'.1, eqvAll_self ds h'.2, Bool.and_self]
end
theorem lay_map {α : Type} {f : α → PyData} (h : ∀ a, (f a).canLay0 = true) : ∀ l : List α, PyData.canLayAll0 (l.map f) = true
  | [] => rfl
  | a :: l => by simp only [List.map_cons, PyData.canLayAll0, h a, lay_map h l, Bool.and_self]
theorem depth_map {α : Type} {f : α → PyData} {c : Nat} (h : ∀ a, (f a).depth ≤ c) : ∀ l : List α, PyData.depthAll (l.map f) ≤ c
  | [] => by simp [PyData.depthAll]
  | a :: l => by
    simp only [List.map_cons, PyData.depthAll]
    exact Nat.max_le.mpr ⟨h a, depth_map h l⟩
theorem lay_tup {ds : List PyData} (h : PyData.canLayAll0 ds = true) : (PyData.tuple ds).canLay0 = true := by simpa [PyData.canLay0] using h
theorem lay_int (i : Int) : (PyData.int i).canLay0 = true := rfl
theorem shaped_of {d : PyData} (h : d.canLay0 = true) (h2 : d.depth ≤ 20) : SeqAt.shaped d = true := by
  unfold SeqAt.shaped
  rw [Bool.and_eq_true]
  refine ⟨h, ?_⟩
  first
  | exact decide_eq_true (by omega)
  | simp; omega
theorem gv_neSelf {ds : List PyData} (h : SeqAt.shaped (.tuple ds) = true) : gNe (.tuple ds) (.tuple ds) = some (.bool false) := by
  have : gEqB (.tuple ds) (.tuple ds) = some true := by
    unfold gEqB
    simp only [h, Bool.and_self, if_true]
    rw [eqv_self _ (SeqAt.canLay_of_shaped h)]
  exact gv_neB this
theorem gv_reprTup {ds : List PyData} (h : ((PyData.tuple ds).canLay0 && (PyData.tuple ds).showable && !(PyData.tuple ds).hasDict && decide ((PyData.tuple ds).depth < 60) && decide ((PyData.tuple ds).shown.length ≤ big)) = true) : gReprD (.tuple ds) = some (.str (PyData.tuple ds).shown) := if_pos h
end Z

set_option Elab.async false
set_option linter.all false
set_option maxRecDepth 100000
set_option maxHeartbeats 4000000
namespace Z
open PySem PySem.Spec PyProof.Rows L2
section
variable {f g h : PX} {s t u : SX} {Γ Γ' : Ga} {i j : Nat} {c c' : PTx} {pa : PAx} {r : Option Oc} {d e z : PyData} {ds : List PyData} {b : Bool} {er : Er} {rr : Option Res} {n N : Nat} {bx : BX}
theorem rv_b3 {k : PyData → PyData → PyData → Option PyData} {x y w : PyData} (h1 : f Γ = some (.ok x)) (h2 : g Γ = some (.ok y)) (h3 : h Γ = some (.ok w)) (h4 : k x y w = some z) : b3 f g h k Γ = some (.ok z) := by
  unfold b3
  rw [h1]
  exact rv_b2 h2 h3 h4
theorem rv_toI (h1 : f Γ = some (.ok (.list ds))) : toI f Γ = some (.ok ds) := by unfold toI; rw [h1]
theorem rv_augM {x y : Int} (h0 : Γ[i]? = some (some (.int x))) (h1 : f Γ = some (.ok (.int y))) (h2 : okMul x y) (h3 : Γ.set i (some (.int (x * y))) = Γ') : augM i f Γ = some (.nx Γ') := by
  unfold augM
  rw [h0]
  simp only [h1, if_pos h2, h3]
theorem rv_lc2 {ii ii1 : PIx} {vs vs1 : List Nat} {b1 : BX} {ft ft1 : PTx} {ys : List PyData} (h1 : ii Γ = some (.ok ds)) (h2 : lc2L (lc2I vs bx ft ii1 vs1 b1 ft1 f Γ) ds = some ys) (h3 : ys.length ≤ big) : lc2X ii vs bx ft ii1 vs1 b1 ft1 f Γ = some (.ok (.list ys)) := by
  unfold lc2X
  rw [h1]
  simp only [h2, if_pos h3]
theorem rv_lc2I {ii1 : PIx} {vs vs1 : List Nat} {b1 : BX} {ft1 : PTx} {ys ds1 : List PyData} (h1 : bx d (wipeG Γ vs) = some Γ') (h2 : ii1 Γ' = some (.ok ds1)) (h3 : lcL (lcI vs1 b1 ft1 f Γ') ds1 = some ys) : lc2I vs bx fYes ii1 vs1 b1 ft1 f Γ d = some ys := by
  unfold lc2I
  simp only [h1, fYes, h2, h3]
theorem lc2L_map {α : Type} {item : PyData → Option (List PyData)} {f : α → PyData} {g : α → List PyData} : ∀ {l : List α}, (∀ a ∈ l, item (f a) = some (g a)) → lc2L item (l.map f) = some (l.flatMap g)
  | [], _ => rfl
  | a :: l, h => by
    rw [List.map_cons, lc2L, h a List.mem_cons_self]
    simp only [lc2L_map fun b hb => h b (List.mem_cons_of_mem _ hb), Option.map_some]
    rfl
theorem rv_enT (h1 : f Γ = some (.ok (.tuple ds))) : enX f Γ = some (.ok (enD 0 ds)) := by unfold enX; rw [h1]
theorem rv_enL (h1 : f Γ = some (.ok (.list ds))) : enX f Γ = some (.ok (enD 0 ds)) := by unfold enX; rw [h1]
theorem rv_zipY {xs ys : List PyData} (h1 : f Γ = some (.ok d)) (h2 : seqD d = some xs) (h3 : g Γ = some (.ok e)) (h4 : seqD e = some ys) : zipY f g Γ = some (.ok (List.zipWith pairD xs ys)) := by
  unfold zipY
  rw [h1]
  simp only [h2, h3, h4]
theorem rv_toTE2 (h1 : c Γ = some (.error er)) : notT c Γ = some (.error er) := by unfold notT; rw [h1]
theorem rv_seq_iff (h1 : c Γ = some (.ok b)) (hb : b = true) (h2 : seqX s u Γ = r) : seqX (ifS c s t) u Γ = r := by subst hb; exact rv_seq_ifT h1 h2
end
theorem gv_sum {ns : List Int} : gSum (.list (ns.map .int)) = some (.int ns.sum) := by
  show (ints? (ns.map .int)).map _ = _
  rw [ints_map]
  rfl
theorem gv_inRg2 {i lo hi : Int} : gInRg2 (.int i) (.int lo) (.int hi) = some (.bool (decide (lo ≤ i ∧ i < hi))) := rfl
theorem gv_ninRg2 {i lo hi : Int} : gNinRg2 (.int i) (.int lo) (.int hi) = some (.bool (!decide (lo ≤ i ∧ i < hi))) := rfl
theorem gv_revL {ds : List PyData} : gRevL (.list ds) = some (.list ds.reverse) := rfl
theorem gv_sortT {ns : List Int} : gSortP (.tuple (ns.map .int)) = some (.list ((isort ns).map .int)) := by
  show (ints? (ns.map .int)).map _ = _
  rw [ints_map]
  rfl
theorem gv_sortL {ns : List Int} : gSortP (.list (ns.map .int)) = some (.list ((isort ns).map .int)) := by
  show (ints? (ns.map .int)).map _ = _
  rw [ints_map]
  rfl
/-- enumerate of what is told by place -/
theorem enD_map {α : Type} (f : α → PyData) : ∀ (l : List α) (s : Nat), enD s (l.map f) = (l.zipIdx s).map fun p => .tuple [.int (p.2 : Nat), f p.1]
  | [], _ => rfl
  | a :: l, s => by
    rw [List.map_cons, enD, List.zipIdx_cons, List.map_cons, enD_map f l (s + 1)]
theorem enD_range (f : Nat → PyData) (n : Nat) : enD 0 ((List.range n).map f) = (List.range n).map fun i => .tuple [.int (i : Nat), f i] := by
  rw [enD_map]
  refine List.ext_getElem (by simp) fun i h1 h2 => ?_
  simp
/-- one loop after another -/
theorem zip_range {α β γ : Type} (f : Nat → α) (g : Nat → β) (h : α → β → γ) {m n : Nat} (hmn : n ≤ m) : List.zipWith h ((List.range m).map f) ((List.range n).map g) = (List.range n).map fun i => h (f i) (g i) := by
  refine List.ext_getElem (by simp; omega) fun i h1 h2 => ?_
  simp
theorem zip3_range (f g h : Nat → PyData) {m n : Nat} (hmn : n ≤ m) : zip3D ((List.range m).map f) ((List.range n).map g) ((List.range n).map h) = (List.range n).map fun i => .tuple [f i, g i, h i] := by
  unfold zip3D
  rw [zip_range g h (fun y z => [y, z]) (Nat.le_refl n)]
  refine List.ext_getElem (by simp; omega) fun i h1 h2 => ?_
  simp
theorem gv_repF {xs : List PyData} {n : Nat} (hn : n ≤ 100000) (h : xs.length * n ≤ big) : gRepF (.list xs) (.int n) = some (.list (List.replicate n xs).flatten) := by
  unfold gRepF
  have c : -(2 ^ 63) ≤ (n : Int) ∧ (n : Int) < 2 ^ 63 ∧ xs.length * ((n : Int)).toNat ≤ big := ⟨by omega, by omega, by rw [Int.toNat_natCast]; exact h⟩
  simp only [if_pos c]
  rw [Int.toNat_natCast]
end Z

set_option Elab.async false
set_option linter.all false
set_option maxRecDepth 100000
set_option maxHeartbeats 4000000
namespace M
open PySem PySem.Spec PyProof.Rows L2 Z

/-! ## portraits -/
abbrev Ptr := Nat → Nat → Nat → Nat
/-- the j-th string of length i -/
def sh (k : Nat) : Nat → Nat → List Nat
  | 0, _ => []
  | i + 1, j => sh k i (j / k) ++ [j % k]
def numF (k : Nat) (a : Nat) (w : List Nat) : Nat := w.foldl (fun a d => a * k + d) a
abbrev num (k : Nat) (w : List Nat) : Nat := numF k 0 w
theorem numF_snoc (k a : Nat) (w : List Nat) (x : Nat) : numF k a (w ++ [x]) = numF k a w * k + x := by simp [numF, List.foldl_append]
theorem numF_app (k a : Nat) (v w : List Nat) : numF k a (v ++ w) = numF k (numF k a v) w := by simp [numF, List.foldl_append]
theorem sh_len (k : Nat) : ∀ i j, (sh k i j).length = i
  | 0, _ => rfl
  | i + 1, j => by rw [sh, List.length_append, sh_len k i]; rfl
theorem sh_lt {k : Nat} (hk : 0 < k) : ∀ i j, ∀ d ∈ sh k i j, d < k
  | 0, _, d, h => nomatch h
  | i + 1, j, d, h => by
    rw [sh] at h
    rcases List.mem_append.mp h with h | h
    · exact sh_lt hk i _ d h
    · rw [List.mem_singleton.mp h]; exact Nat.mod_lt _ hk
theorem dv {k j i : Nat} (hk : 0 < k) (h : j < k ^ (i + 1)) : j / k < k ^ i := by
  rw [Nat.div_lt_iff_lt_mul hk]; rwa [Nat.pow_succ] at h
theorem num_sh {k : Nat} (hk : 0 < k) : ∀ i j, j < k ^ i → num k (sh k i j) = j
  | 0, j, h => by
    rw [Nat.pow_zero] at h
    show 0 = j
    omega
  | i + 1, j, h => by
    rw [sh, num, numF_snoc]
    have := num_sh hk i (j / k) (dv hk h)
    rw [num] at this
    rw [this]
    have := Nat.div_add_mod j k
    rw [Nat.mul_comm] at this
    exact this
theorem sh_cons {k i m x : Nat} (hx : x < k) : sh k (i + 1) (m * k + x) = sh k i m ++ [x] := by
  have hk : 0 < k := by omega
  rw [sh]
  have e1 : (m * k + x) / k = m := by
    rw [Nat.mul_comm, Nat.mul_add_div hk, Nat.div_eq_of_lt hx]; rfl
  have e2 : (m * k + x) % k = x := by rw [Nat.mul_comm, Nat.mul_add_mod, Nat.mod_eq_of_lt hx]
  rw [e1, e2]
/-- a string's image, from a place and a number of its beginning on -/
def actL (k : Nat) (P : Ptr) : Nat → Nat → List Nat → List Nat
  | _, _, [] => []
  | i, a, x :: w => P i a x :: actL k P (i + 1) (a * k + x) w
abbrev act (k : Nat) (P : Ptr) (w : List Nat) : List Nat := actL k P 0 0 w
theorem actL_len (k : Nat) (P : Ptr) : ∀ (w : List Nat) (i a : Nat), (actL k P i a w).length = w.length
  | [], _, _ => rfl
  | x :: w, i, a => by rw [actL, List.length_cons, List.length_cons, actL_len k P w]
theorem actL_app (k : Nat) (P : Ptr) : ∀ (v w : List Nat) (i a : Nat), actL k P i a (v ++ w) = actL k P i a v ++ actL k P (i + v.length) (numF k a v) w
  | [], w, i, a => rfl
  | x :: v, w, i, a => by
    rw [List.cons_append, actL, actL, actL_app k P v w, List.cons_append, List.length_cons]
    have e : i + 1 + v.length = i + (v.length + 1) := by omega
    rw [e]
    rfl
structure Gd (k d : Nat) (P : Ptr) : Prop where
  perm : ∀ i j, i < d → j < k ^ i → ((List.range k).map (P i j)).Perm (List.range k)
theorem Gd.lt {k d : Nat} {P : Ptr} (G : Gd k d P) {i j x : Nat} (hi : i < d) (hj : j < k ^ i) (hx : x < k) : P i j x < k :=
  List.mem_range.mp ((G.perm i j hi hj).mem_iff.mp (List.mem_map.mpr ⟨x, List.mem_range.mpr hx, rfl⟩))
theorem Gd.sur {k d : Nat} {P : Ptr} (G : Gd k d P) {i j y : Nat} (hi : i < d) (hj : j < k ^ i) (hy : y < k) : ∃ x, x < k ∧ P i j x = y := by
  obtain ⟨x, hx, e⟩ := List.mem_map.mp ((G.perm i j hi hj).mem_iff.mpr (List.mem_range.mpr hy))
  exact ⟨x, List.mem_range.mp hx, e⟩
/-- the number of the image of the j-th string of a level -/
def img (k : Nat) (P : Ptr) : Nat → Nat → Nat
  | 0, _ => 0
  | i + 1, j => img k P i (j / k) * k + P i (j / k) (j % k)
theorem pow_lt' {k i a x : Nat} (ha : a < k ^ i) (hx : x < k) : a * k + x < k ^ (i + 1) := by
  rw [Nat.pow_succ]
  calc a * k + x < a * k + k := by omega
    _ = (a + 1) * k := by rw [Nat.add_mul, Nat.one_mul]
    _ ≤ k ^ i * k := Nat.mul_le_mul_right k ha
theorem img_lt {k d : Nat} {P : Ptr} (hk : 0 < k) (G : Gd k d P) : ∀ i j, i ≤ d → j < k ^ i → img k P i j < k ^ i
  | 0, j, _, _ => by rw [img, Nat.pow_zero]; exact Nat.one_pos
  | i + 1, j, hi, hj => by
    rw [img]
    exact pow_lt' (img_lt hk G i _ (by omega) (dv hk hj)) (G.lt (by omega) (dv hk hj) (Nat.mod_lt _ hk))
theorem mk_div {k a x : Nat} (hx : x < k) : (a * k + x) / k = a := by
  have hk : 0 < k := by omega
  rw [Nat.mul_comm, Nat.mul_add_div hk, Nat.div_eq_of_lt hx]; rfl
theorem mk_mod {k a x : Nat} (hx : x < k) : (a * k + x) % k = x := by rw [Nat.mul_comm, Nat.mul_add_mod, Nat.mod_eq_of_lt hx]
theorem img_div {k d : Nat} {P : Ptr} (hk : 0 < k) (G : Gd k d P) {i j : Nat} (hi : i < d) (hj : j < k ^ (i + 1)) : img k P (i + 1) j / k = img k P i (j / k) ∧ img k P (i + 1) j % k = P i (j / k) (j % k) := by
  have hp := G.lt hi (dv hk hj) (Nat.mod_lt j hk)
  rw [img]
  exact ⟨mk_div hp, mk_mod hp⟩
theorem act_sh {k d : Nat} {P : Ptr} (hk : 0 < k) (G : Gd k d P) : ∀ i j, i ≤ d → j < k ^ i → act k P (sh k i j) = sh k i (img k P i j)
  | 0, _, _, _ => rfl
  | i + 1, j, hi, hj => by
    have h1 := dv hk hj
    have h2 := act_sh hk G i (j / k) (by omega) h1
    have h3 := num_sh hk i (j / k) h1
    rw [sh, act, actL_app]
    rw [act] at h2
    rw [h2, Nat.zero_add, sh_len]
    rw [num] at h3
    rw [h3, img, sh_cons (G.lt (by omega) h1 (Nat.mod_lt _ hk))]
    rfl
theorem img_sur {k d : Nat} {P : Ptr} (hk : 0 < k) (G : Gd k d P) : ∀ i m, i ≤ d → m < k ^ i → ∃ j, j < k ^ i ∧ img k P i j = m
  | 0, m, _, h => ⟨0, by rw [Nat.pow_zero]; exact Nat.one_pos, by rw [Nat.pow_zero] at h; rw [img]; omega⟩
  | i + 1, m, hi, hm => by
    obtain ⟨j, hj, e⟩ := img_sur hk G i (m / k) (by omega) (dv hk hm)
    obtain ⟨x, hx, e2⟩ := G.sur (i := i) (j := j) (by omega) hj (Nat.mod_lt m hk)
    refine ⟨j * k + x, pow_lt' hj hx, ?_⟩
    rw [img, mk_div hx, mk_mod hx, e, e2]
    have := Nat.div_add_mod m k
    rw [Nat.mul_comm] at this
    exact this
/-- the same on all that counts -/
def Same (k d : Nat) (P Q : Ptr) : Prop := ∀ i j x, i < d → j < k ^ i → x < k → P i j x = Q i j x
theorem Same.img {k d : Nat} {P Q : Ptr} (hk : 0 < k) (h : Same k d P Q) : ∀ i j, i ≤ d → j < k ^ i → img k P i j = img k Q i j
  | 0, _, _, _ => rfl
  | i + 1, j, hi, hj => by
    rw [M.img, M.img, Same.img hk h i _ (by omega) (dv hk hj), h i _ _ (by omega) (dv hk hj) (Nat.mod_lt _ hk)]
def prd (k : Nat) (P Q : Ptr) : Ptr := fun i j x => Q i (img k P i j) (P i j x)
theorem img_prd {k d : Nat} {P Q : Ptr} (hk : 0 < k) (G : Gd k d P) : ∀ i j, i ≤ d → j < k ^ i → img k (prd k P Q) i j = img k Q i (img k P i j)
  | 0, _, _, _ => rfl
  | i + 1, j, hi, hj => by
    obtain ⟨e1, e2⟩ := img_div hk G (i := i) (j := j) (by omega) hj
    rw [img, img_prd hk G i _ (by omega) (dv hk hj)]
    conv => rhs; rw [img, e1, e2]
    rfl
theorem prd_gd {k d : Nat} {P Q : Ptr} (hk : 0 < k) (G : Gd k d P) (G' : Gd k d Q) : Gd k d (prd k P Q) := ⟨fun i j hi hj => by
  have h := (G.perm i j hi hj).map (Q i (img k P i j))
  rw [List.map_map] at h
  exact h.trans (G'.perm i _ hi (img_lt hk G i j (by omega) hj))⟩
theorem prd_assoc {k d : Nat} {P Q R : Ptr} (hk : 0 < k) (G : Gd k d P) : Same k d (prd k (prd k P Q) R) (prd k P (prd k Q R)) := fun i j x hi hj hx => by
  show R i (img k (prd k P Q) i j) _ = R i (img k Q i (img k P i j)) _
  rw [img_prd hk G i j (by omega) hj]
  rfl
/-- the portrait that changes nothing -/
def idp : Ptr := fun _ _ x => x
theorem idp_gd (k d : Nat) : Gd k d idp := ⟨fun i j _ _ => by
  rw [show idp i j = id from rfl, List.map_id]⟩
theorem img_idp {k : Nat} (hk : 0 < k) : ∀ i j, j < k ^ i → img k idp i j = j
  | 0, j, h => by rw [Nat.pow_zero] at h; rw [img]; omega
  | i + 1, j, h => by
    rw [img, img_idp hk i _ (dv hk h)]
    have := Nat.div_add_mod j k
    rw [Nat.mul_comm] at this
    exact this
/-- B takes back what P does -/
def Undo (k d : Nat) (P B : Ptr) : Prop := ∀ i j x, i < d → j < k ^ i → x < k → B i (img k P i j) (P i j x) = x
theorem undo_r {k d : Nat} {P B : Ptr} (U : Undo k d P B) : Same k d (prd k P B) idp := fun i j x hi hj hx => U i j x hi hj hx
theorem undo_l {k d : Nat} {P B : Ptr} (hk : 0 < k) (G : Gd k d P) (U : Undo k d P B) : Same k d (prd k B P) idp := fun i m y hi hm hy => by
  obtain ⟨j, hj, e⟩ := img_sur hk G i m (by omega) hm
  obtain ⟨x, hx, e2⟩ := G.sur hi hj hy
  have h1 : img k B i m = j := by
    rw [← e, ← img_prd hk G i j (by omega) hj, Same.img hk (undo_r U) i j (by omega) hj, img_idp hk i j hj]
  show P i (img k B i m) (B i m y) = y
  rw [h1, ← e, ← e2, U i j x hi hj hx]
theorem undo_gd {k d : Nat} {P B : Ptr} (hk : 0 < k) (G : Gd k d P) (U : Undo k d P B) : Gd k d B := ⟨fun i m hi hm => by
  obtain ⟨j, hj, e⟩ := img_sur hk G i m (by omega) hm
  have h := (G.perm i j hi hj).map (B i m)
  rw [List.map_map] at h
  have e2 : (List.range k).map (B i m ∘ P i j) = List.range k := by
    conv => rhs; rw [← List.map_id (List.range k)]
    refine List.map_congr_left fun x hx => ?_
    show B i m (P i j x) = x
    rw [← e]
    exact U i j x hi hj (List.mem_range.mp hx)
  rw [e2] at h
  exact h.symm⟩
/-- the strings' images under a product -/
theorem act_prd {k d : Nat} {P Q : Ptr} (hk : 0 < k) (G : Gd k d P) (G' : Gd k d Q) {i j : Nat} (hi : i ≤ d) (hj : j < k ^ i) : act k (prd k P Q) (sh k i j) = act k Q (act k P (sh k i j)) := by
  rw [act_sh hk (prd_gd hk G G') i j hi hj, act_sh hk G i j hi hj, act_sh hk G' i _ hi (img_lt hk G i j hi hj), img_prd hk G i j hi hj]
/-! the data -/
abbrev rowP (k : Nat) (f : Nat → Nat) : PyData := .tuple ((List.range k).map fun x => PyData.int (f x : Nat))
abbrev levP (k : Nat) (P : Ptr) (i : Nat) : PyData := .tuple ((List.range (k ^ i)).map fun j => rowP k (P i j))
abbrev datP (k d : Nat) (P : Ptr) : PyData := .tuple ((List.range d).map (levP k P))
theorem datP_same {k d : Nat} {P Q : Ptr} (h : Same k d P Q) : datP k d P = datP k d Q := by
  unfold datP levP rowP
  congr 1
  refine List.map_congr_left fun i hi => ?_
  congr 1
  refine List.map_congr_left fun j hj => ?_
  congr 1
  exact List.map_congr_left fun x hx => by rw [h i j x (List.mem_range.mp hi) (List.mem_range.mp hj) (List.mem_range.mp hx)]
theorem gv_lev {k d : Nat} {P : Ptr} {i : Nat} (hi : i < d) : gIx (datP k d P) (.int (i : Nat)) = some (levP k P i) := gv_ixTN rfl (by simp [hi])
theorem gv_row' {k : Nat} {P : Ptr} {i j : Nat} (hj : j < k ^ i) : gIx (levP k P i) (.int (j : Nat)) = some (rowP k (P i j)) := gv_ixTN rfl (by simp [hj])
theorem gv_out {k x : Nat} {f : Nat → Nat} (hx : x < k) : gIx (rowP k f) (.int (x : Nat)) = some (.int (f x : Nat)) := gv_ixTN rfl (by simp [hx])
/-! numbers and images, sign by sign -/
theorem numF_lt {k : Nat} : ∀ (w : List Nat) (a : Nat), (∀ d ∈ w, d < k) → numF k a w < (a + 1) * k ^ w.length
  | [], a, _ => by simp [numF]
  | x :: w, a, h => by
    have h1 := numF_lt w (a * k + x) fun d hd => h d (List.mem_cons_of_mem _ hd)
    have h2 := h x List.mem_cons_self
    have e : numF k a (x :: w) = numF k (a * k + x) w := rfl
    rw [e, List.length_cons]
    refine Nat.lt_of_lt_of_le h1 ?_
    rw [Nat.pow_succ, Nat.mul_comm (k ^ w.length) k, ← Nat.mul_assoc]
    refine Nat.mul_le_mul_right _ ?_
    rw [Nat.add_mul]
    omega
theorem num_lt {k : Nat} {w : List Nat} (h : ∀ d ∈ w, d < k) : num k w < k ^ w.length := by
  have := numF_lt w 0 h
  rwa [Nat.zero_add, Nat.one_mul] at this
theorem actL_get (k : Nat) (P : Ptr) : ∀ (w : List Nat) (i a m : Nat) (h : m < w.length), (actL k P i a w)[m]? = some (P (i + m) (numF k a (w.take m)) w[m])
  | x :: w, i, a, 0, _ => rfl
  | x :: w, i, a, m + 1, h => by
    rw [actL, List.getElem?_cons_succ, actL_get k P w (i + 1) (a * k + x) m (by simpa using h)]
    have e : i + 1 + m = i + (m + 1) := by omega
    rw [e]
    rfl
theorem act_take (k : Nat) (P : Ptr) (w : List Nat) (m : Nat) (h : m < w.length) : (act k P w).take (m + 1) = (act k P w).take m ++ [P m (num k (w.take m)) w[m]] := by
  rw [List.take_add_one, act, actL_get k P w 0 0 m h, Nat.zero_add]
  rfl
theorem num_take (k : Nat) (w : List Nat) (m : Nat) (h : m < w.length) : num k (w.take (m + 1)) = num k (w.take m) * k + w[m] := by
  rw [List.take_add_one, List.getElem?_eq_getElem h]
  exact numF_snoc k 0 _ _
theorem act_lt {k d : Nat} {P : Ptr} (G : Gd k d P) {w : List Nat} (hl : w.length ≤ d) (hw : ∀ x ∈ w, x < k) : ∀ y ∈ act k P w, y < k := fun y hy => by
  obtain ⟨m, hm⟩ := List.mem_iff_getElem?.mp hy
  have hml : m < w.length := by
    have := (List.getElem?_eq_some_iff.mp hm).1
    rwa [act, actL_len] at this
  rw [act, actL_get k P w 0 0 m hml, Nat.zero_add] at hm
  cases hm
  refine G.lt (by omega) ?_ (hw _ (List.getElem_mem hml))
  have := num_lt (k := k) (w := w.take m) fun d hd => hw d (List.mem_of_mem_take hd)
  rwa [List.length_take, Nat.min_eq_left (by omega)] at this
theorem gv_txIx {w : List Nat} {m : Nat} (h : m < w.length) (hl : w.length ≤ 1000) : gIx (.str (tx w)) (.int (m : Nat)) = some (chD w[m]) := by
  refine gv_ixS (c := 48 + w[m]) (by rw [tx_len]; unfold big; omega) (by omega) ?_
  rw [tx_cps, Int.toNat_natCast, List.getElem?_map, List.getElem?_eq_getElem h]
  rfl
/-! rows that are arrangements -/
theorem row_perm {k : Nat} {row : List Int} (h : row.Perm (rg k)) : PyData.tuple (row.map .int) = rowP k (fun x => (row.getD x 0).toNat) ∧ ((List.range k).map fun x => (row.getD x 0).toNat).Perm (List.range k) := by
  have hl : row.length = k := by rw [h.length_eq]; simp [rg]
  have e1 : (List.range k).map (fun x => (row.getD x 0).toNat) = row.map Int.toNat := by
    refine List.ext_getElem (by simp [hl]) fun i h1 h2 => ?_
    have hi : i < row.length := by simpa using h2
    simp [List.getD_eq_getElem?_getD, List.getElem?_eq_getElem hi]
  refine ⟨?_, ?_⟩
  · unfold rowP
    congr 1
    refine List.ext_getElem (by simp [hl]) fun i h1 h2 => ?_
    have hi : i < row.length := by simpa using h1
    have h0 : 0 ≤ row[i] := by
      obtain ⟨n, _, e⟩ := List.mem_map.mp (h.mem_iff.mp (List.getElem_mem hi))
      omega
    simp only [List.getElem_map, List.getElem_range, List.getD_eq_getElem?_getD, List.getElem?_eq_getElem hi, Option.getD_some]
    rw [Int.toNat_of_nonneg h0]
  · rw [e1]
    have h2 := h.map Int.toNat
    have e2 : (rg k).map Int.toNat = List.range k := by
      unfold rg
      rw [List.map_map]
      conv => rhs; rw [← List.map_id (List.range k)]
      exact List.map_congr_left fun x _ => rfl
    rwa [e2] at h2
theorem gd_ext {k d : Nat} {P P' : Ptr} (h : ∀ i, i < d → P i = P' i) (G : Gd k d P) : Gd k d P' := ⟨fun i j hi hj => by rw [← h i hi]; exact G.perm i j hi hj⟩
/-! sections -/
theorem numF_eq (k : Nat) : ∀ (w : List Nat) (a : Nat), numF k a w = a * k ^ w.length + num k w
  | [], a => by simp [numF, num]
  | x :: w, a => by
    have e1 : numF k a (x :: w) = numF k (a * k + x) w := rfl
    have e2 : num k (x :: w) = numF k (0 * k + x) w := rfl
    rw [e1, e2, numF_eq k w, numF_eq k w (0 * k + x), List.length_cons, Nat.pow_succ, Nat.zero_mul, Nat.zero_add, Nat.add_mul, Nat.mul_comm (k ^ w.length) k, Nat.mul_assoc, Nat.add_assoc]
theorem sh_num' {k : Nat} : ∀ (n : Nat) (w : List Nat), w.length = n → (∀ d ∈ w, d < k) → sh k n (num k w) = w
  | 0, w, e, _ => by rw [List.length_eq_zero_iff.mp e]; rfl
  | n + 1, w, e, h => by
    rcases List.eq_nil_or_concat w with e0 | ⟨v, x, e0⟩
    · subst e0; cases e
    · rw [List.concat_eq_append] at e0
      subst e0
      rw [List.length_append, List.length_singleton] at e
      rw [num, numF_snoc, sh_cons (h x (List.mem_append_right _ List.mem_cons_self))]
      have ih := sh_num' n v (by omega) fun d hd => h d (List.mem_append_left _ hd)
      rw [num] at ih
      rw [ih]
theorem sh_num {k : Nat} (w : List Nat) (h : ∀ d ∈ w, d < k) : sh k w.length (num k w) = w := sh_num' _ w rfl h
def sec (k : Nat) (P : Ptr) (w : List Nat) : Ptr := fun i j x => P (w.length + i) (num k w * k ^ i + j) x
theorem sec_pos {k l i n j : Nat} (hn : n < k ^ l) (hj : j < k ^ i) : n * k ^ i + j < k ^ (l + i) := by
  rw [Nat.pow_add]
  calc n * k ^ i + j < n * k ^ i + k ^ i := by omega
    _ = (n + 1) * k ^ i := by rw [Nat.add_mul, Nat.one_mul]
    _ ≤ k ^ l * k ^ i := Nat.mul_le_mul_right _ hn
theorem sec_gd {k d : Nat} {P : Ptr} (G : Gd k d P) {w : List Nat} (hw : ∀ x ∈ w, x < k) : Gd k (d - w.length) (sec k P w) := ⟨fun i j hi hj => G.perm _ _ (by omega) (sec_pos (num_lt hw) hj)⟩
theorem img_sec {k d : Nat} {P : Ptr} (hk : 0 < k) (G : Gd k d P) {w : List Nat} (hw : ∀ x ∈ w, x < k) : ∀ i j, w.length + i ≤ d → j < k ^ i → img k P (w.length + i) (num k w * k ^ i + j) = img k P w.length (num k w) * k ^ i + img k (sec k P w) i j
  | 0, j, _, hj => by
    rw [Nat.pow_zero] at hj ⊢
    have : j = 0 := by omega
    subst this
    simp [img]
  | i + 1, j, hi, hj => by
    have h1 := dv hk hj
    have e1 : (num k w * k ^ (i + 1) + j) / k = num k w * k ^ i + j / k := by
      rw [Nat.pow_succ, ← Nat.mul_assoc, Nat.mul_comm _ k, Nat.mul_add_div hk]
    have e2 : (num k w * k ^ (i + 1) + j) % k = j % k := by
      rw [Nat.pow_succ, ← Nat.mul_assoc, Nat.mul_comm _ k, Nat.mul_add_mod]
    have e3 : w.length + (i + 1) = w.length + i + 1 := by omega
    rw [e3, img, e1, e2, img_sec hk G hw i (j / k) (by omega) h1]
    conv => rhs; rw [img]
    show _ = _ * k ^ (i + 1) + (_ * k + P (w.length + i) (num k w * k ^ i + j / k) (j % k))
    rw [Nat.add_mul, Nat.pow_succ, Nat.mul_assoc, Nat.add_assoc]
theorem sec_prd {k d : Nat} {P Q : Ptr} (hk : 0 < k) (G : Gd k d P) {w : List Nat} (hl : w.length ≤ d) (hw : ∀ x ∈ w, x < k) : Same k (d - w.length) (sec k (prd k P Q) w) (prd k (sec k P w) (sec k Q (act k P w))) := fun i j x hi hj hx => by
  show Q (w.length + i) (img k P (w.length + i) (num k w * k ^ i + j)) (P (w.length + i) (num k w * k ^ i + j) x) = Q ((act k P w).length + i) (num k (act k P w) * k ^ i + img k (sec k P w) i j) (P (w.length + i) (num k w * k ^ i + j) x)
  have e1 : (act k P w).length = w.length := actL_len k P w 0 0
  have e2 : num k (act k P w) = img k P w.length (num k w) := by
    have h1 := act_sh hk G w.length (num k w) hl (num_lt hw)
    rw [sh_num w hw] at h1
    rw [h1, num_sh hk _ _ (img_lt hk G _ _ hl (num_lt hw))]
  rw [e1, e2, img_sec hk G hw i j (by omega) hj]
theorem num_sec {k : Nat} (hk : 0 < k) {w : List Nat} {i j : Nat} (hj : j < k ^ i) : num k (w ++ sh k i j) = num k w * k ^ i + j := by
  rw [num, numF_app, numF_eq, sh_len, num_sh hk i j hj]
theorem rowP_sec {k : Nat} {P : Ptr} {w : List Nat} {i j : Nat} : rowP k (sec k P w i j) = rowP k (P (w.length + i) (num k w * k ^ i + j)) := rfl
end M

set_option Elab.async false
set_option linter.all false
set_option maxRecDepth 100000
set_option maxHeartbeats 4000000
namespace M
open PySem PySem.Spec PyProof.Rows L2 Z

/-! ## signs of arrangements -/
/-- the places x below m: how many behind are smaller, all together -/
def invTo (l : List Nat) (m : Nat) : Nat := ((List.range m).map fun x => ((l.drop (x + 1)).filter fun y => decide (y < l.getD x 0)).length).sum
def sgn (l : List Nat) : Int := 1 - 2 * ((invTo l l.length : Int) % 2)
abbrev fl (k : Nat) (f : Nat → Nat) : List Nat := (List.range k).map f
def perms : Nat → List (List Nat)
  | 2 => [[0, 1], [1, 0]]
  | 3 => [[0, 1, 2], [0, 2, 1], [1, 0, 2], [1, 2, 0], [2, 0, 1], [2, 1, 0]]
  | 4 => [[0, 1, 2, 3], [0, 1, 3, 2], [0, 2, 1, 3], [0, 2, 3, 1], [0, 3, 1, 2], [0, 3, 2, 1], [1, 0, 2, 3], [1, 0, 3, 2], [1, 2, 0, 3], [1, 2, 3, 0], [1, 3, 0, 2], [1, 3, 2, 0], [2, 0, 1, 3], [2, 0, 3, 1], [2, 1, 0, 3], [2, 1, 3, 0], [2, 3, 0, 1], [2, 3, 1, 0], [3, 0, 1, 2], [3, 0, 2, 1], [3, 1, 0, 2], [3, 1, 2, 0], [3, 2, 0, 1], [3, 2, 1, 0]]
  | _ => []
theorem mem4 : ∀ a b c d : Fin 4, [a.val, b.val, c.val, d.val].Nodup → [a.val, b.val, c.val, d.val] ∈ perms 4 := by decide +kernel
theorem mem3 : ∀ a b c : Fin 3, [a.val, b.val, c.val].Nodup → [a.val, b.val, c.val] ∈ perms 3 := by decide +kernel
theorem mem2 : ∀ a b : Fin 2, [a.val, b.val].Nodup → [a.val, b.val] ∈ perms 2 := by decide +kernel
theorem mem_perms {k : Nat} (hk : 2 ≤ k ∧ k ≤ 4) {l : List Nat} (h : l.Perm (List.range k)) : l ∈ perms k := by
  have hl : l.length = k := by rw [h.length_eq, List.length_range]
  have hn : l.Nodup := h.symm.nodup List.nodup_range
  have hlt : ∀ x ∈ l, x < k := fun x hx => List.mem_range.mp (h.mem_iff.mp hx)
  rcases (by omega : k = 2 ∨ k = 3 ∨ k = 4) with rfl | rfl | rfl
  · match l, hl, hn, hlt with
    | [a, b], _, hn, hlt => exact mem2 ⟨a, hlt a (by simp)⟩ ⟨b, hlt b (by simp)⟩ hn
  · match l, hl, hn, hlt with
    | [a, b, c], _, hn, hlt => exact mem3 ⟨a, hlt a (by simp)⟩ ⟨b, hlt b (by simp)⟩ ⟨c, hlt c (by simp)⟩ hn
  · match l, hl, hn, hlt with
    | [a, b, c, d], _, hn, hlt => exact mem4 ⟨a, hlt a (by simp)⟩ ⟨b, hlt b (by simp)⟩ ⟨c, hlt c (by simp)⟩ ⟨d, hlt d (by simp)⟩ hn
theorem sgn_mul2 : ∀ f ∈ perms 2, ∀ g ∈ perms 2, sgn (f.map fun x => g.getD x 0) = sgn f * sgn g := by decide +kernel
theorem sgn_mul3 : ∀ f ∈ perms 3, ∀ g ∈ perms 3, sgn (f.map fun x => g.getD x 0) = sgn f * sgn g := by decide +kernel
theorem sgn_mul4 : ∀ f ∈ perms 4, ∀ g ∈ perms 4, sgn (f.map fun x => g.getD x 0) = sgn f * sgn g := by decide +kernel
theorem sgn_comp {k : Nat} (hk : 2 ≤ k ∧ k ≤ 4) {f g : Nat → Nat} (hf : (fl k f).Perm (List.range k)) (hg : (fl k g).Perm (List.range k)) : sgn (fl k fun x => g (f x)) = sgn (fl k f) * sgn (fl k g) := by
  have e : (fl k fun x => g (f x)) = (fl k f).map fun x => (fl k g).getD x 0 := by
    unfold fl
    rw [List.map_map]
    refine List.map_congr_left fun x hx => ?_
    have hfx : f x < k := List.mem_range.mp (hf.mem_iff.mp (List.mem_map.mpr ⟨x, hx, rfl⟩))
    simp [hfx]
  have h1 := mem_perms hk hf
  have h2 := mem_perms hk hg
  rw [e]
  rcases (by omega : k = 2 ∨ k = 3 ∨ k = 4) with rfl | rfl | rfl
  · exact sgn_mul2 _ h1 _ h2
  · exact sgn_mul3 _ h1 _ h2
  · exact sgn_mul4 _ h1 _ h2
theorem sgn_one (l : List Nat) : sgn l = 1 ∨ sgn l = -1 := by unfold sgn; omega
/-! products over a level -/
def pz : List Int → Int
  | [] => 1
  | a :: l => a * pz l
theorem pz_perm {l m : List Int} (h : l.Perm m) : pz l = pz m := by
  induction h with
  | nil => rfl
  | cons x _ ih => rw [pz, pz, ih]
  | swap x y l => rw [pz, pz, pz, pz, ← Int.mul_assoc, Int.mul_comm y x, Int.mul_assoc]
  | trans _ _ h1 h2 => rw [h1, h2]
theorem pz_app (l m : List Int) : pz (l ++ m) = pz l * pz m := by
  induction l with
  | nil => rw [List.nil_append, pz, Int.one_mul]
  | cons a l ih => rw [List.cons_append, pz, pz, ih, Int.mul_assoc]
theorem pz_mul {α : Type} (f g : α → Int) : ∀ l : List α, pz (l.map fun x => f x * g x) = pz (l.map f) * pz (l.map g)
  | [] => rfl
  | a :: l => by
    rw [List.map_cons, List.map_cons, List.map_cons, pz, pz, pz, pz_mul f g l]
    have e : ∀ a b c d : Int, a * b * (c * d) = a * c * (b * d) := fun a b c d => by rw [Int.mul_assoc, Int.mul_assoc, Int.mul_left_comm b]
    exact e _ _ _ _
theorem range_mul (n k : Nat) : List.range (n * k) = (List.range n).flatMap fun m => (List.range k).map fun x => m * k + x := by
  induction n with
  | zero => rw [Nat.zero_mul]; rfl
  | succ n ih => rw [Nat.add_mul, Nat.one_mul, List.range_add, ih, List.range_succ, List.flatMap_append]; simp
theorem perm_fm {α β : Type} {f g : α → List β} : ∀ l : List α, (∀ a ∈ l, (f a).Perm (g a)) → (l.flatMap f).Perm (l.flatMap g)
  | [], _ => by rw [List.flatMap_nil, List.flatMap_nil]
  | a :: l, h => by
    rw [List.flatMap_cons, List.flatMap_cons]
    exact (h a List.mem_cons_self).append (perm_fm l fun b hb => h b (List.mem_cons_of_mem _ hb))
theorem img_perm {k d : Nat} {P : Ptr} (hk : 0 < k) (G : Gd k d P) : ∀ i, i ≤ d → ((List.range (k ^ i)).map (img k P i)).Perm (List.range (k ^ i))
  | 0, _ => by rw [Nat.pow_zero]; exact List.Perm.refl _
  | i + 1, hi => by
    have ih := img_perm hk G i (by omega)
    rw [Nat.pow_succ, range_mul, List.map_flatMap]
    have h1 : ((List.range (k ^ i)).flatMap fun m => ((List.range k).map fun x => m * k + x).map (img k P (i + 1))).Perm ((List.range (k ^ i)).flatMap fun m => (List.range k).map fun x => img k P i m * k + x) := by
      refine perm_fm _ fun m hm => ?_
      rw [List.map_map]
      have e : (List.range k).map (img k P (i + 1) ∘ fun x => m * k + x) = ((List.range k).map (P i m)).map fun x => img k P i m * k + x := by
        rw [List.map_map]
        refine List.map_congr_left fun x hx => ?_
        show img k P (i + 1) (m * k + x) = img k P i m * k + P i m x
        rw [img, mk_div (List.mem_range.mp hx), mk_mod (List.mem_range.mp hx)]
      rw [e]
      exact (G.perm i m (by omega) (List.mem_range.mp hm)).map _
    refine h1.trans ?_
    have h2 : ((List.range (k ^ i)).flatMap fun m => (List.range k).map fun x => img k P i m * k + x) = ((List.range (k ^ i)).map (img k P i)).flatMap fun m => (List.range k).map fun x => m * k + x := by rw [List.flatMap_map]
    rw [h2]
    exact List.Perm.flatMap_right _ ih
def sgL (k : Nat) (P : Ptr) (i : Nat) : Int := pz ((List.range (k ^ i)).map fun j => sgn (fl k (P i j)))
theorem sgL_prd {k d : Nat} {P Q : Ptr} (hk : 2 ≤ k ∧ k ≤ 4) (G : Gd k d P) (G' : Gd k d Q) {i : Nat} (hi : i < d) : sgL k (prd k P Q) i = sgL k P i * sgL k Q i := by
  have hk0 : 0 < k := by omega
  unfold sgL
  have e : (List.range (k ^ i)).map (fun j => sgn (fl k (prd k P Q i j))) = (List.range (k ^ i)).map fun j => sgn (fl k (P i j)) * sgn (fl k (Q i (img k P i j))) := by
    refine List.map_congr_left fun j hj => ?_
    have hj := List.mem_range.mp hj
    exact sgn_comp hk (G.perm i j hi hj) (G'.perm i _ hi (img_lt hk0 G i j (by omega) hj))
  rw [e, pz_mul (fun j => sgn (fl k (P i j))) fun j => sgn (fl k (Q i (img k P i j)))]
  congr 1
  have := (img_perm hk0 G i (by omega)).map fun m => sgn (fl k (Q i m))
  rw [List.map_map] at this
  exact pz_perm this
/-! steps with a condition -/
abbrev nats (l : List Nat) : List PyData := l.map fun (n : Nat) => PyData.int (n : Int)
theorem rowP_nats (k : Nat) (f : Nat → Nat) : rowP k f = .tuple (nats (fl k f)) := by
  unfold rowP nats fl
  rw [List.map_map]
  rfl
theorem invTo_succ (l : List Nat) (m : Nat) : invTo l (m + 1) = invTo l m + ((l.drop (m + 1)).filter fun y => decide (y < l.getD m 0)).length := by
  unfold invTo
  rw [List.range_succ, List.map_append, List.sum_append]
  simp
theorem sgn_small (l : List Nat) : -2 < sgn l ∧ sgn l < 2 := by rcases sgn_one l with h | h <;> rw [h] <;> decide
theorem pz_small {l : List Int} (h : ∀ a ∈ l, a = 1 ∨ a = -1) : pz l = 1 ∨ pz l = -1 := by
  induction l with
  | nil => exact .inl rfl
  | cons a l ih =>
    rw [pz]
    rcases h a List.mem_cons_self with e | e <;> rcases ih (fun b hb => h b (List.mem_cons_of_mem _ hb)) with e2 | e2 <;> rw [e, e2] <;> decide
end M

set_option Elab.async false
set_option linter.all false
set_option maxRecDepth 100000
set_option maxHeartbeats 4000000
namespace M
open PySem PySem.Spec PyProof.Rows L2 Z

/-! ## rearrangements of a level that belong to a portrait -/
def cpl : List Nat → List Nat → Nat
  | x :: u, y :: v => if x = y then cpl u v + 1 else 0
  | _, _ => 0
theorem cpl_take : ∀ (u v : List Nat) (i : Nat), u.length = v.length → i ≤ u.length → (i ≤ cpl u v ↔ u.take i = v.take i)
  | u, v, 0, _, _ => by simp
  | x :: u, y :: v, i + 1, hl, hi => by
    have ih := cpl_take u v i (by simpa using hl) (by simpa using hi)
    rw [cpl, List.take_succ_cons, List.take_succ_cons]
    by_cases e : x = y
    · rw [if_pos e, e, List.cons.injEq]
      simp only [true_and]
      rw [← ih]
      omega
    · rw [if_neg e, List.cons.injEq]
      constructor
      · intro h; omega
      · intro h; exact absurd h.1 e
  | [], _, i + 1, _, hi => absurd hi (by simp)
theorem cpl_le : ∀ (u v : List Nat), cpl u v ≤ u.length
  | [], _ => by simp [cpl]
  | x :: u, [] => by simp [cpl]
  | x :: u, y :: v => by
    have := cpl_le u v
    rw [cpl]
    split
    · simp; omega
    · omega
theorem sh_take {k : Nat} (hk : 0 < k) (i : Nat) : ∀ (m j : Nat), (sh k (i + m) j).take i = sh k i (j / k ^ m)
  | 0, j => by rw [Nat.pow_zero, Nat.div_one, List.take_of_length_le (by rw [sh_len]; exact Nat.le_refl _)]; rfl
  | m + 1, j => by
    rw [show i + (m + 1) = (i + m) + 1 by omega, sh, List.take_append_of_le_length (by rw [sh_len]; omega), sh_take hk i m (j / k), Nat.div_div_eq_div_mul, Nat.pow_succ, Nat.mul_comm k]
theorem div_lt' {k i m j : Nat} (hk : 0 < k) (h : j < k ^ (i + m)) : j / k ^ m < k ^ i := by
  rw [Nat.div_lt_iff_lt_mul (Nat.pow_pos hk), ← Nat.pow_add]; exact h
theorem sh_inj {k i a b : Nat} (hk : 0 < k) (ha : a < k ^ i) (hb : b < k ^ i) (e : sh k i a = sh k i b) : a = b := by
  rw [← num_sh hk i a ha, ← num_sh hk i b hb, e]
/-- the same beginnings -/
def Keeps (k d : Nat) (f : Nat → Nat) : Prop := ∀ a b, a < k ^ d → b < k ^ d → cpl (sh k d a) (sh k d b) = cpl (sh k d (f a)) (sh k d (f b))
theorem cpl_pre {k i m a b : Nat} (hk : 0 < k) (ha : a < k ^ (i + m)) (hb : b < k ^ (i + m)) : i ≤ cpl (sh k (i + m) a) (sh k (i + m) b) ↔ a / k ^ m = b / k ^ m := by
  rw [cpl_take _ _ i (by rw [sh_len, sh_len]) (by rw [sh_len]; omega), sh_take hk, sh_take hk]
  exact ⟨sh_inj hk (div_lt' hk ha) (div_lt' hk hb), fun e => by rw [e]⟩
theorem Keeps.pre {k d : Nat} {f : Nat → Nat} (hk : 0 < k) (K : Keeps k d f) (hf : ∀ a, a < k ^ d → f a < k ^ d) {i m a b : Nat} (e : i + m = d) (ha : a < k ^ d) (hb : b < k ^ d) : a / k ^ m = b / k ^ m ↔ f a / k ^ m = f b / k ^ m := by
  subst e
  rw [← cpl_pre hk ha hb, ← cpl_pre hk (hf a ha) (hf b hb), K a b ha hb]
theorem perms_perm : ∀ k, 2 ≤ k → k ≤ 4 → ∀ l ∈ perms k, l.Perm (List.range k) := by
  intro k h1 h2
  rcases (by omega : k = 2 ∨ k = 3 ∨ k = 4) with rfl | rfl | rfl <;> decide +kernel
theorem perm_of_nodup {k : Nat} (hk : 2 ≤ k ∧ k ≤ 4) {l : List Nat} (hl : l.length = k) (hn : l.Nodup) (hlt : ∀ x ∈ l, x < k) : l.Perm (List.range k) := by
  refine perms_perm k hk.1 hk.2 l ?_
  rcases (by omega : k = 2 ∨ k = 3 ∨ k = 4) with rfl | rfl | rfl
  · match l, hl, hn, hlt with
    | [a, b], _, hn, hlt => exact mem2 ⟨a, hlt a (by simp)⟩ ⟨b, hlt b (by simp)⟩ hn
  · match l, hl, hn, hlt with
    | [a, b, c], _, hn, hlt => exact mem3 ⟨a, hlt a (by simp)⟩ ⟨b, hlt b (by simp)⟩ ⟨c, hlt c (by simp)⟩ hn
  · match l, hl, hn, hlt with
    | [a, b, c, d], _, hn, hlt => exact mem4 ⟨a, hlt a (by simp)⟩ ⟨b, hlt b (by simp)⟩ ⟨c, hlt c (by simp)⟩ ⟨d, hlt d (by simp)⟩ hn
theorem nodup_on {f : Nat → Nat} {l : List Nat} (h : ∀ x ∈ l, ∀ y ∈ l, f x = f y → x = y) (hn : l.Nodup) : (l.map f).Nodup := List.pairwise_map.mpr (List.Pairwise.imp_of_mem (fun {a b} hx hy hne e => hne (h _ hx _ hy e)) hn)
/-- from a rearrangement to its portrait -/
def qf (k d : Nat) (f : Nat → Nat) (i p : Nat) : Nat := f (p * k ^ (d - i)) / k ^ (d - i)
def ptrOf (k d : Nat) (f : Nat → Nat) : Ptr := fun i p x => qf k d f (i + 1) (p * k + x) % k
theorem at_lt {k d i p : Nat} (hk : 0 < k) (hi : i ≤ d) (hp : p < k ^ i) : p * k ^ (d - i) < k ^ d := by
  have e : k ^ d = k ^ i * k ^ (d - i) := by rw [← Nat.pow_add]; congr 1; omega
  rw [e]
  exact Nat.mul_lt_mul_of_pos_right hp (Nat.pow_pos hk)
theorem qf_div {k d : Nat} {f : Nat → Nat} (hk : 0 < k) (K : Keeps k d f) (hf : ∀ a, a < k ^ d → f a < k ^ d) {i p x : Nat} (hi : i < d) (hp : p < k ^ i) (hx : x < k) : qf k d f (i + 1) (p * k + x) / k = qf k d f i p := by
  have hpx := pow_lt' hp hx
  have a1 := at_lt (d := d) hk (show i + 1 ≤ d by omega) hpx
  have a2 := at_lt (d := d) hk (show i ≤ d by omega) hp
  unfold qf
  have e : k ^ (d - i) = k ^ (d - (i + 1)) * k := by rw [← Nat.pow_succ]; congr 1; omega
  rw [Nat.div_div_eq_div_mul, ← e]
  refine (K.pre hk hf (i := i) (m := d - i) (by omega) a1 a2).mp ?_
  rw [Nat.mul_div_cancel _ (Nat.pow_pos hk), e, ← Nat.div_div_eq_div_mul, Nat.mul_div_cancel _ (Nat.pow_pos hk), mk_div hx]
theorem ptr_gd {k d : Nat} {f : Nat → Nat} (hk : 2 ≤ k ∧ k ≤ 4) (K : Keeps k d f) (hf : ∀ a, a < k ^ d → f a < k ^ d) : Gd k d (ptrOf k d f) := ⟨fun i p hi hp => by
  have hk0 : 0 < k := by omega
  refine perm_of_nodup hk (by simp) ?_ fun y hy => ?_
  · refine nodup_on (fun x hx y hy e => ?_) List.nodup_range
    have hx := List.mem_range.mp hx
    have hy := List.mem_range.mp hy
    have e1 := qf_div hk0 K hf hi hp hx
    have e2 := qf_div hk0 K hf hi hp hy
    have e3 : qf k d f (i + 1) (p * k + x) = qf k d f (i + 1) (p * k + y) := by
      have h1 := Nat.div_add_mod (qf k d f (i + 1) (p * k + x)) k
      have h2 := Nat.div_add_mod (qf k d f (i + 1) (p * k + y)) k
      have e' : qf k d f (i + 1) (p * k + x) % k = qf k d f (i + 1) (p * k + y) % k := e
      rw [e1, e'] at h1
      rw [e2] at h2
      omega
    have a1 := at_lt (d := d) hk0 (show i + 1 ≤ d by omega) (pow_lt' hp hx)
    have a2 := at_lt (d := d) hk0 (show i + 1 ≤ d by omega) (pow_lt' hp hy)
    have := (K.pre hk0 hf (i := i + 1) (m := d - (i + 1)) (by omega) a1 a2).mpr e3
    rw [Nat.mul_div_cancel _ (Nat.pow_pos hk0), Nat.mul_div_cancel _ (Nat.pow_pos hk0)] at this
    omega
  · obtain ⟨x, _, rfl⟩ := List.mem_map.mp hy
    exact Nat.mod_lt _ hk0⟩
theorem img_ptr {k d : Nat} {f : Nat → Nat} (hk : 0 < k) (K : Keeps k d f) (hf : ∀ a, a < k ^ d → f a < k ^ d) : ∀ i p, i ≤ d → p < k ^ i → img k (ptrOf k d f) i p = qf k d f i p
  | 0, p, _, hp => by
    rw [Nat.pow_zero] at hp
    have : p = 0 := by omega
    subst this
    rw [img]
    unfold qf
    rw [Nat.sub_zero, Nat.zero_mul, Nat.div_eq_of_lt (hf 0 (Nat.pow_pos hk))]
  | i + 1, p, hi, hp => by
    have h1 := dv hk hp
    have h2 := Nat.mod_lt p hk
    rw [img, img_ptr hk K hf i (p / k) (by omega) h1]
    have e : p / k * k + p % k = p := by rw [Nat.mul_comm]; exact Nat.div_add_mod p k
    have e1 := qf_div hk K hf (i := i) (by omega) h1 h2
    rw [e] at e1
    show _ * k + qf k d f (i + 1) (p / k * k + p % k) % k = _
    rw [e, ← e1, Nat.mul_comm]
    exact Nat.div_add_mod _ k
theorem img_ptr_d {k d : Nat} {f : Nat → Nat} (hk : 0 < k) (K : Keeps k d f) (hf : ∀ a, a < k ^ d → f a < k ^ d) {j : Nat} (hj : j < k ^ d) : img k (ptrOf k d f) d j = f j := by
  rw [img_ptr hk K hf d j (Nat.le_refl _) hj]
  unfold qf
  rw [Nat.sub_self, Nat.pow_zero, Nat.mul_one, Nat.div_one]
/-- a portrait keeps beginnings -/
theorem img_pre {k d : Nat} {P : Ptr} (hk : 0 < k) (G : Gd k d P) (i : Nat) : ∀ (m j : Nat), i + m ≤ d → j < k ^ (i + m) → img k P (i + m) j / k ^ m = img k P i (j / k ^ m)
  | 0, j, _, _ => by rw [Nat.pow_zero, Nat.div_one, Nat.div_one]; rfl
  | m + 1, j, hi, hj => by
    have hj' : j < k ^ (i + m + 1) := hj
    rw [Nat.pow_succ, Nat.mul_comm, ← Nat.div_div_eq_div_mul, ← Nat.div_div_eq_div_mul, show i + (m + 1) = i + m + 1 by omega, (img_div hk G (by omega) hj').1]
    exact img_pre hk G i m (j / k) (by omega) (dv hk hj')
theorem img_inj {k d : Nat} {P : Ptr} (hk : 0 < k) (G : Gd k d P) {i a b : Nat} (hi : i ≤ d) (ha : a < k ^ i) (hb : b < k ^ i) (e : img k P i a = img k P i b) : a = b := by
  have hp := img_perm hk G i hi
  have hn : ((List.range (k ^ i)).map (img k P i)).Nodup := hp.symm.nodup List.nodup_range
  have := (List.pairwise_map.mp hn)
  by_cases h : a = b
  · exact h
  · exfalso
    rcases Nat.lt_or_gt_of_ne h with q | q
    · exact (List.pairwise_iff_getElem.mp this a b (by simpa using ha) (by simpa using hb) q) (by simpa using e)
    · exact (List.pairwise_iff_getElem.mp this b a (by simpa using hb) (by simpa using ha) q) (by simpa using e.symm)
theorem keeps_img {k d : Nat} {P : Ptr} (hk : 0 < k) (G : Gd k d P) : Keeps k d (img k P d) := fun a b ha hb => by
  have ha' := img_lt hk G d a (Nat.le_refl _) ha
  have hb' := img_lt hk G d b (Nat.le_refl _) hb
  have key : ∀ i, i ≤ d → (i ≤ cpl (sh k d a) (sh k d b) ↔ i ≤ cpl (sh k d (img k P d a)) (sh k d (img k P d b))) := fun i hi => by
    obtain ⟨m, rfl⟩ : ∃ m, d = i + m := ⟨d - i, by omega⟩
    rw [cpl_pre hk ha hb, cpl_pre hk ha' hb', img_pre hk G i m a (Nat.le_refl _) ha, img_pre hk G i m b (Nat.le_refl _) hb]
    exact ⟨fun e => by rw [e], img_inj hk G (by omega) (div_lt' hk ha) (div_lt' hk hb)⟩
  have l1 := cpl_le (sh k d a) (sh k d b)
  have l2 := cpl_le (sh k d (img k P d a)) (sh k d (img k P d b))
  rw [sh_len] at l1 l2
  exact Nat.le_antisymm ((key _ l1).mp (Nat.le_refl _)) ((key _ l2).mpr (Nat.le_refl _))
end M

set_option Elab.async false
set_option linter.all false
set_option maxRecDepth 100000
set_option maxHeartbeats 4000000
namespace M
open PySem PySem.Spec PyProof.Rows L2 Z

/-! ## data that can be shown, and how long that is -/
structure Rpr (c n : Nat) (d : PyData) : Prop where
  lay : d.canLay0 = true
  sh : d.showable = true
  nd : d.hasDict = false
  dp : d.depth ≤ c
  lf : d.leavesShort 13 = true
  wt : d.weight ≤ n
theorem all_lay {ds : List PyData} (h : ∀ d ∈ ds, d.canLay0 = true) : PyData.canLayAll0 ds = true := by
  induction ds with
  | nil => rfl
  | cons d ds ih => simp only [PyData.canLayAll0, h d List.mem_cons_self, ih fun e he => h e (List.mem_cons_of_mem _ he), Bool.and_self]
theorem all_sh {ds : List PyData} (h : ∀ d ∈ ds, d.showable = true) : PyData.showableAll ds = true := by
  induction ds with
  | nil => rfl
  | cons d ds ih => simp only [PyData.showableAll, h d List.mem_cons_self, ih fun e he => h e (List.mem_cons_of_mem _ he), Bool.and_self]
theorem all_nd {ds : List PyData} (h : ∀ d ∈ ds, d.hasDict = false) : PyData.hasDictAll ds = false := by
  induction ds with
  | nil => rfl
  | cons d ds ih => simp only [PyData.hasDictAll, h d List.mem_cons_self, ih fun e he => h e (List.mem_cons_of_mem _ he), Bool.or_self]
theorem all_lf {ds : List PyData} (h : ∀ d ∈ ds, d.leavesShort 13 = true) : PyData.leavesShortAll 13 ds = true := by
  induction ds with
  | nil => rfl
  | cons d ds ih => simp only [PyData.leavesShortAll, h d List.mem_cons_self, ih fun e he => h e (List.mem_cons_of_mem _ he), Bool.and_self]
theorem all_dp {c : Nat} {ds : List PyData} (h : ∀ d ∈ ds, d.depth ≤ c) : PyData.depthAll ds ≤ c := by
  induction ds with
  | nil => simp [PyData.depthAll]
  | cons d ds ih =>
    simp only [PyData.depthAll]
    exact Nat.max_le.mpr ⟨h d List.mem_cons_self, ih fun e he => h e (List.mem_cons_of_mem _ he)⟩
theorem all_wt {n : Nat} {ds : List PyData} (h : ∀ d ∈ ds, d.weight ≤ n) : PyData.weightAll ds ≤ ds.length * (n + 1) := by
  induction ds with
  | nil => simp [PyData.weightAll]
  | cons d ds ih =>
    have h1 := h d List.mem_cons_self
    have h2 := ih fun e he => h e (List.mem_cons_of_mem _ he)
    simp only [PyData.weightAll, List.length_cons]
    rw [Nat.add_mul, Nat.one_mul]
    omega
theorem rpr_tup {c n N : Nat} {ds : List PyData} (h : ∀ d ∈ ds, Rpr c n d) (hN : ds.length * (n + 1) ≤ N) : Rpr (c + 1) N (.tuple ds) where
  lay := by simpa [PyData.canLay0] using all_lay fun d hd => (h d hd).lay
  sh := by simpa [PyData.showable] using all_sh fun d hd => (h d hd).sh
  nd := by simpa [PyData.hasDict] using all_nd fun d hd => (h d hd).nd
  dp := by
    simp only [PyData.depth]
    have := all_dp fun d hd => (h d hd).dp
    omega
  lf := by simpa [PyData.leavesShort] using all_lf fun d hd => (h d hd).lf
  wt := by
    simp only [PyData.weight]
    exact Nat.le_trans (all_wt fun d hd => (h d hd).wt) hN
theorem rpr_lst {c n N : Nat} {ds : List PyData} (h : ∀ d ∈ ds, Rpr c n d) (hN : ds.length * (n + 1) ≤ N) : Rpr (c + 1) N (.list ds) where
  lay := by simpa [PyData.canLay0] using all_lay fun d hd => (h d hd).lay
  sh := by simpa [PyData.showable] using all_sh fun d hd => (h d hd).sh
  nd := by simpa [PyData.hasDict] using all_nd fun d hd => (h d hd).nd
  dp := by
    simp only [PyData.depth]
    have := all_dp fun d hd => (h d hd).dp
    omega
  lf := by simpa [PyData.leavesShort] using all_lf fun d hd => (h d hd).lf
  wt := by
    simp only [PyData.weight]
    exact Nat.le_trans (all_wt fun d hd => (h d hd).wt) hN
theorem rpr_dig : ∀ x : Nat, x < 10 → Rpr 0 4 (.int (x : Int)) := fun x hx => by
  have key : ∀ x : Nat, x < 10 → decide (((x : Int).natAbs.log2 < 1920) ∧ (PyData.shown (.int (x : Int))).length ≤ 13 ∧ (PyData.int (x : Int)).weight ≤ 4) = true := by decide +kernel
  obtain ⟨h1, h2, h3⟩ := of_decide_eq_true (key x hx)
  exact ⟨rfl, decide_eq_true h1, rfl, by simp [PyData.depth], decide_eq_true h2, h3⟩
theorem gv_reprT {c n : Nat} {ds : List PyData} (h : Rpr c n (.tuple ds)) (hc : c < 60) (hn : n ≤ 60000) : gReprD (.tuple ds) = some (.str (PyData.tuple ds).shown) := by
  refine gv_reprTup ?_
  have h1 := h.dp
  have h2 := PyData.shown_le 13 (by omega) _ h.lf
  have h3 := h.wt
  simp only [Bool.and_eq_true, decide_eq_true_eq, h.lay, h.sh, h.nd, Bool.not_false, true_and]
  exact ⟨by omega, by unfold big; omega⟩
theorem rpr_shaped {c n : Nat} {d : PyData} (h : Rpr c n d) (hc : c ≤ 20) : SeqAt.shaped d = true := shaped_of h.lay (Nat.le_trans h.dp hc)
/-- a portrait -/
theorem rpr_row {k : Nat} {f : Nat → Nat} (hk : k ≤ 4) (h : ∀ x, x < k → f x < 10) : Rpr 1 20 (rowP k f) := rpr_tup (c := 0) (n := 4) (fun d hd => by
  obtain ⟨x, hx, rfl⟩ := List.mem_map.mp hd
  exact rpr_dig _ (h x (List.mem_range.mp hx))) (by rw [List.length_map, List.length_range]; omega)
theorem rpr_ptr {k d : Nat} {P : Ptr} (hk : k ≤ 4) (hd : d ≤ 6) (hp : ∀ i, i < d → k ^ i ≤ 256) (G : Gd k d P) : Rpr 3 40000 (datP k d P) := rpr_tup (c := 2) (n := 5400) (fun l hl => by
  obtain ⟨i, hi, rfl⟩ := List.mem_map.mp hl
  have hi := List.mem_range.mp hi
  refine rpr_tup (c := 1) (n := 20) (fun r hr => ?_) ?_
  · obtain ⟨j, hj, rfl⟩ := List.mem_map.mp hr
    exact rpr_row hk fun x hx => by
      have := G.lt hi (List.mem_range.mp hj) hx
      omega
  · rw [List.length_map, List.length_range]
    have := hp i hi
    omega) (by rw [List.length_map, List.length_range]; omega)
theorem gv_reprL {c n : Nat} {ds : List PyData} (h : Rpr c n (.list ds)) (hc : c < 60) (hn : n ≤ 60000) : gReprD (.list ds) = some (.str (PyData.list ds).shown) := by
  refine if_pos ?_
  have h1 := h.dp
  have h2 := PyData.shown_le 13 (by omega) _ h.lf
  have h3 := h.wt
  simp only [Bool.and_eq_true, decide_eq_true_eq, h.lay, h.sh, h.nd, Bool.not_false, true_and]
  exact ⟨by omega, by unfold big; omega⟩
theorem rpr_pm {a : Int} (h : a = 1 ∨ a = -1) : Rpr 0 4 (.int a) := by
  rcases h with rfl | rfl
  · exact ⟨rfl, by decide, rfl, by decide, by decide +kernel, by decide⟩
  · exact ⟨rfl, by decide, rfl, by decide, by decide +kernel, by decide⟩
end M

set_option Elab.async false
set_option linter.all false
set_option maxRecDepth 100000
set_option maxHeartbeats 4000000
namespace M
open PySem PySem.Spec PyProof.Rows L2 Z D
theorem cell_eq (xs : List Int) (k : Nat) : F__law_cell [.list (xs.map .int), .int k] = some (.ok (.int (xs.getD k 0))) := by
  refine rv_def (G := [some (.list (xs.map .int)), some (.int k)]) rfl rfl ?_
  unfold p__law_cell
  have hl : (xs.map PyData.int).length = xs.length := by simp
  by_cases h : k < xs.length
  · refine rv_seqR (rv_if (rv_toT (rv_b2 (rv_fV rfl) (rv_b1 (rv_fV rfl) gv_lenL) gv_lt)) (fun _ => rv_ret (rv_b2 (rv_fV rfl) (rv_fV rfl) (gv_ixL (Int.natCast_nonneg k) ?_))) fun z => ?_)
    · simp [h]
    · rw [hl] at z
      exact absurd h (by have := of_decide_eq_false z; omega)
  · refine rv_seq (rv_if (rv_toT (rv_b2 (rv_fV rfl) (rv_b1 (rv_fV rfl) gv_lenL) gv_lt)) (fun z => ?_) fun _ => rv_nx) (rv_ret ?_)
    · rw [hl] at z
      exact absurd (of_decide_eq_true z) (by omega)
    · have : xs.getD k 0 = 0 := by simp [List.getElem?_eq_none (show xs.length ≤ k by omega)]
      rw [this]
      exact rv_fC
/-- the values that _law_values gives -/
def VInv (cell count size : Int) (i : Nat) (Γ : Ga) : Prop := ∃ (vs : List Int) (rest : Int) (x y : Option PyData), Γ = [some (.int cell), some (.int count), some (.int size), some (.list (vs.map .int)), some (.int rest), x, y] ∧ vs.length = i ∧ ∀ v ∈ vs, 0 ≤ v ∧ v < size
theorem values_eq (cell : Int) (count : Nat) (size : Int) (hc : count ≤ 10000) (h1 : 0 < size) (h2 : size < 1000) : ∃ vs : List Int, F__law_values [.int cell, .int count, .int size] = some (.ok (.list (vs.map .int))) ∧ vs.length = count ∧ ∀ v ∈ vs, 0 ≤ v ∧ v < size := by
  have loop := forR_inv (b := bNm 5) (s := (ifS (toT (b2 (fV 4) (b2 (fC (.int 10)) (fC (.int 12)) gPow) gGeI)) (seqX (appX 3 (b2 (b1 (fV 4) gInt) (fV 2) gMod))
    (asgX (b2 (fV 4) (fV 2) gDiv) (bNm 4))) (seqX (asgX (b2 (b2 (b2 (b2 (b2 (b1 (fV 0) gInt) (fC (.int 2147483647)) gMod) (fC (.int 48271)) gMul) (b2 (fV 5) (fC (.int 69621)) gMul) gAdd) (fC (.int 7)) gAdd) (fC (.int 2147483647)) gMod) (bNm 6))
    (appX 3 (b2 (b2 (b2 (fV 6) (fC (.int 16807)) gMul) (fC (.int 2147483647)) gMod) (fV 2) gMod))))) (VInv cell count size) (n := count) (Γ := [some (.int cell), some (.int count), some (.int size), some (.list []), some (.int cell), none, none]) ⟨[], cell, none, none, rfl, rfl, by simp⟩ ?_
  · obtain ⟨Γ', e1, vs, rest, x, y, rfl, e3, e4⟩ := loop
    refine ⟨vs, ?_, e3, e4⟩
    refine rv_def (G := [some (.int cell), some (.int count), some (.int size), none, none, none, none]) rfl rfl ?_
    unfold p__law_values
    refine rv_seq (rv_asg (rv_c1 rv_nil gv_L0) rfl) (rv_seq (rv_asg (rv_fV rfl) rfl) (rv_seq (rv_for (rv_iR1 (rv_fV rfl) ?_) e1) (rv_ret (rv_fV rfl))))
    unfold rgB; omega
  · rintro i Γ hi ⟨vs, rest, x, y, rfl, e3, e4⟩
    have lb : (vs.map PyData.int).length < big := by rw [List.length_map, e3]; unfold big; omega
    have app : ∀ v : Int, vs.map PyData.int ++ [PyData.int v] = (vs ++ [v]).map PyData.int := fun v => by simp
    have inv : ∀ (v rest : Int) (y : Option PyData), 0 ≤ v → v < size → VInv cell count size (i + 1) [some (.int cell), some (.int count), some (.int size), some (.list ((vs ++ [v]).map .int)), some (.int rest), some (.int i), y] := fun v rest y k1 k2 =>
      ⟨vs ++ [v], rest, _, y, rfl, by simp [e3], fun w hw => by
        rcases List.mem_append.mp hw with q | q
        · exact e4 w q
        · rw [List.mem_singleton.mp q]; exact ⟨k1, k2⟩⟩
    have inv' : ∀ (v rest : Int) (y : Option PyData), 0 ≤ v → v < size → VInv cell count size (i + 1) [some (.int cell), some (.int count), some (.int size), some (.list (vs.map .int ++ [.int v])), some (.int rest), some (.int i), y] := fun v rest y k1 k2 => by
      rw [app]; exact inv v rest y k1 k2
    by_cases hr : (1000000000000 : Int) ≤ rest
    · refine ⟨_, [some (.int cell), some (.int count), some (.int size), some (.list (vs.map .int ++ [.int (rest % size)])), some (.int (rest / size)), some (.int i), y], rfl, ?_, inv' _ _ _ (Int.emod_nonneg _ (by omega)) (Int.emod_lt_of_pos _ h1)⟩
      exact rv_ifT (rv_toT (rv_b2 (rv_fV rfl) (rv_b2 rv_fC rv_fC gv_p12) (show some _ = some _ by simp [hr]))) (rv_seq (rv_app rfl (rv_b2 (rv_b1 (rv_fV rfl) gv_int) (rv_fV rfl) (gv_mod h1)) lb rfl) (rv_asg (rv_b2 (rv_fV rfl) (rv_fV rfl) (gv_div ⟨h1, by omega⟩)) rfl))
    · refine ⟨_, [some (.int cell), some (.int count), some (.int size), some (.list (vs.map .int ++ [.int (((cell % 2147483647 * 48271 + i * 69621 + 7) % 2147483647) * 16807 % 2147483647 % size)])), some (.int rest), some (.int i), some (.int ((cell % 2147483647 * 48271 + i * 69621 + 7) % 2147483647))], rfl, ?_, inv' _ _ _ (Int.emod_nonneg _ (by omega)) (Int.emod_lt_of_pos _ h1)⟩
      exact rv_ifF (rv_toT (rv_b2 (rv_fV rfl) (rv_b2 rv_fC rv_fC gv_p12) (show some _ = some _ by simp; omega))) (rv_seq (rv_asg (rv_b2 (rv_b2 (rv_b2 (rv_b2 (rv_b2 (rv_b1 (rv_fV rfl) gv_int) rv_fC (gv_mod (by omega))) rv_fC (gv_mulR (by omega) (by omega))) (rv_b2 (rv_fV rfl) rv_fC (gv_mulR (by omega) (by omega))) gv_add) rv_fC gv_add) rv_fC (gv_mod (by omega))) rfl)
        (rv_app rfl (rv_b2 (rv_b2 (rv_b2 (rv_fV rfl) rv_fC (gv_mulR (by omega) (by omega))) rv_fC (gv_mod (by omega))) (rv_fV rfl) (gv_mod h1)) lb rfl))
end M

set_option Elab.async false
set_option linter.all false
set_option maxRecDepth 100000
set_option maxHeartbeats 4000000
namespace M
open PySem PySem.Spec PyProof.Rows L2 Z D
def AInv (size : Nat) (i : Nat) (Γ : Ga) : Prop := ∃ (value : Int) (left row : List Int) (x y : Option PyData), Γ = [some (.int value), some (.int size), some (.list (left.map .int)), some (.list (row.map .int)), x, y] ∧ row.length = i ∧ left.length + i = size ∧ (row ++ left).Perm (rg size)
theorem arranged_eq (value : Int) (size : Nat) (hs : size ≤ 1000) : ∃ row : List Int, F__law_arranged [.int value, .int size] = some (.ok (.tuple (row.map .int))) ∧ row.Perm (rg size) := by
  have lr : (rg size).length = size := by simp [rg]
  have loop := forR_inv (b := bNm 4) (s := (seqX (asgX (b2 (fV 0) (b1 (fV 2) gLen) gMod) (bNm 5)) (seqX (asgX (b2 (fV 0) (b1 (fV 2) gLen) gDiv) (bNm 0)) (seqX (appX 3 (b2 (fV 2) (fV 5) gIx))
    (asgX (b2 (s3 (fV 2) oNone (oSome (fV 5)) gSl) (s3 (fV 2) (oSome (b2 (fV 5) (fC (.int 1)) gAdd)) oNone gSl) gAdd) (bNm 2)))))) (AInv size) (n := size) (Γ := [some (.int value), some (.int size), some (.list ((rg size).map .int)), some (.list []), none, none]) ⟨value, rg size, [], none, none, rfl, rfl, by rw [lr]; rfl, by simp⟩ ?_
  · obtain ⟨Γ', e1, v, left, row, x, y, rfl, e3, e4, e5⟩ := loop
    have : left = [] := List.eq_nil_of_length_eq_zero (by omega)
    subst this
    rw [List.append_nil] at e5
    refine ⟨row, ?_, e5⟩
    refine rv_def (G := [some (.int value), some (.int size), none, none, none, none]) rfl rfl ?_
    unfold p__law_arranged
    refine rv_seq (rv_asg (rv_b1 (rv_fV rfl) (gv_rg ?_)) rfl) (rv_seq (rv_asg (rv_c1 rv_nil gv_L0) rfl) (rv_seq (rv_for (rv_iR1 (rv_fV rfl) ?_) (by rw [← rgD_rg] at e1; exact e1)) (rv_ret (rv_b1 (rv_fOl rfl) gv_tupL))))
    · unfold rgOk; omega
    · unfold rgB; omega
  · rintro i Γ hi ⟨v, left, row, x, y, rfl, e3, e4, e5⟩
    have hp : (0 : Int) < ((left.map PyData.int).length : Nat) := by rw [List.length_map]; omega
    obtain ⟨at_, hat⟩ : ∃ at_ : Int, at_ = v % ((left.map PyData.int).length : Nat) := ⟨_, rfl⟩
    have a0 : 0 ≤ at_ := by rw [hat]; exact Int.emod_nonneg _ (by omega)
    have a1 : at_ < left.length := by
      have := Int.emod_lt_of_pos v hp
      rw [← hat, List.length_map] at this
      exact this
    have lt : at_.toNat < left.length := by omega
    have e : cutD (left.map PyData.int) none (some at_) ++ cutD (left.map PyData.int) (some (at_ + 1)) none = (left.take at_.toNat ++ left.drop (at_.toNat + 1)).map .int := by
      rw [cut_to a0 (by rw [List.length_map]; omega), cut_from (by omega) (by rw [List.length_map]; omega), show (at_ + 1).toNat = at_.toNat + 1 by omega, List.map_append, List.map_take, List.map_drop]
    refine ⟨_, [some (.int (v / ((left.map PyData.int).length : Nat))), some (.int size), some (.list (left.take at_.toNat ++ left.drop (at_.toNat + 1) |>.map .int)), some (.list (row ++ [left[at_.toNat]] |>.map .int)), some (.int i), some (.int at_)], rfl, ?_, _, left.take at_.toNat ++ left.drop (at_.toNat + 1), row ++ [left[at_.toNat]], _, _, rfl, by simp [e3], ?_, ?_⟩
    · apply rv_seq
      · apply rv_asg
        · apply rv_b2 (rv_fV rfl) (rv_b1 (rv_fV rfl) gv_lenL) (gv_mod hp)
        · rfl
      · apply rv_seq
        · apply rv_asg
          · apply rv_b2 (rv_fV rfl) (rv_b1 (rv_fV rfl) gv_lenL) (gv_div ⟨hp, by rw [List.length_map]; omega⟩)
          · rfl
        · rw [← hat]
          apply rv_seq
          · apply rv_app rfl (rv_b2 (rv_fV rfl) (rv_fV rfl) (gv_ixL (d := .int left[at_.toNat]) a0 (by simp [lt]))) (by rw [List.length_map]; unfold big; omega) rfl
          · apply rv_asg
            · refine rv_b2 (rv_s3 (rv_fV rfl) rv_oNone (rv_oSome (rv_fV rfl)) gv_slL) (rv_s3 (rv_fV rfl) (rv_oSome (rv_b2 (rv_fV rfl) rv_fC gv_add)) rv_oNone gv_slL) (gv_addL ?_)
              rw [← List.length_append, e]
              simp [big]
              omega
            · rw [e]
              simp [bNm]
    · simp; omega
    · have hl : left = left.take at_.toNat ++ left[at_.toNat] :: left.drop (at_.toNat + 1) := by rw [← List.drop_eq_getElem_cons lt, List.take_append_drop]
      refine List.Perm.trans ?_ e5
      conv => rhs; rw [hl]
      rw [List.append_assoc]
      exact List.Perm.append_left row (show (left[at_.toNat] :: (left.take at_.toNat ++ left.drop (at_.toNat + 1))).Perm _ from List.perm_middle.symm)
end M

set_option Elab.async false
set_option linter.all false
set_option maxRecDepth 100000
set_option maxHeartbeats 4000000
namespace M
open PySem PySem.Spec PyProof.Rows L2 Z D
abbrev ent (p : Int × Int) : PyData := .tuple [.int p.1, .int p.2]
abbrev rowD (r : List (Int × Int)) : PyData := .tuple (r.map ent)
abbrev macD (k : Int) (rows : List (List (Int × Int))) : PyData := .tuple [.int k, .tuple (rows.map rowD)]
def rowOk (k n : Int) (r : List (Int × Int)) : Bool := decide (isort (r.map Prod.fst) = rg k.toNat) && r.all fun p => decide (0 ≤ p.2 ∧ p.2 < n)
def wideB (k : Int) (rows : List (List (Int × Int))) : Bool := decide (2 ≤ k ∧ k ≤ 4) && decide (1 ≤ rows.length ∧ rows.length ≤ 200) && rows.all (rowOk k rows.length)
theorem firsts (r : List (Int × Int)) : ints? (r.map fun p => PyData.int p.1) = some (r.map Prod.fst) := by
  have : (r.map fun p => PyData.int p.1) = (r.map Prod.fst).map PyData.int := by simp
  rw [this]; exact ints_map _
theorem is_row_eq (r : List (Int × Int)) (k n : Int) (hr : r.length ≤ 1000) (hk : 0 ≤ k ∧ k ≤ 1000) : F_is_row [rowD r, .int k, .int n] = some (.ok (.bool (rowOk k n r))) := by
  refine rv_def (G := [some (rowD r), some (.int k), some (.int n), none, none, none, none]) rfl rfl ?_
  unfold p_is_row
  apply rv_seq
  · apply rv_asg
    · refine rv_b1 (rv_lc (rv_iA (rv_fV rfl) rfl) (by rw [List.length_map]; unfold big; omega) (lcL_map (f := ent) (g := fun p => .int p.1) fun p _ => rv_lcI rfl (rv_fV rfl))) (gv_sort (firsts r))
    · rfl
  · refine rv_ret (rv_andX (rv_b2 (rv_fV rfl) (rv_b1 (rv_fV rfl) (gv_rg (by unfold rgOk; omega))) (gv_eqB (by rw [rgD_int]; exact eq_lists))) fun _ => rv_al (rv_iA (rv_fV rfl) rfl) (alL_map (f := ent) fun p _ => rv_alI rfl (rv_b2 (rv_fV rfl) (rv_fV rfl) gv_inRg)))
theorem is_wide_eq (k : Int) (rows : List (List (Int × Int))) (h : ∀ r ∈ rows, r.length ≤ 1000) : F_is_wide [macD k rows] = some (.ok (.bool (wideB k rows))) := by
  refine rv_def (G := [some (macD k rows), none, none, none]) rfl rfl ?_
  unfold p_is_wide
  have hc : (orT (notT (toT (chainX (fC (.int 2)) (fV 1) (fC (.int 4)) gLeI gLeI))) (notT (toT (chainX (fC (.int 1)) (b1 (fV 2) gLen) (fC (.int 200)) gLeI gLeI)))) [some (macD k rows), some (.int k), some (.tuple (rows.map rowD)), none] =
      some (.ok (!(decide (2 ≤ k) && decide (k ≤ 4)) || !(decide ((1 : Int) ≤ ((rows.map rowD).length : Nat)) && decide ((((rows.map rowD).length : Nat) : Int) ≤ 200)))) :=
    rv_or (rv_not (rv_toT (rv_chain rv_fC (rv_fV rfl) gv_le (fun _ => rv_fC) fun _ => gv_le))) fun _ => rv_not (rv_toT (rv_chain rv_fC (rv_b1 (rv_fV rfl) gv_lenT) gv_le (fun _ => rv_fC) fun _ => gv_le))
  apply rv_seq
  · exact rv_asg (rv_fV rfl) rfl
  · by_cases hw : (2 ≤ k ∧ k ≤ 4) ∧ (1 ≤ rows.length ∧ rows.length ≤ 200)
    · have hb : (!(decide (2 ≤ k) && decide (k ≤ 4)) || !(decide ((1 : Int) ≤ ((rows.map rowD).length : Nat)) && decide ((((rows.map rowD).length : Nat) : Int) ≤ 200))) = false := by
        rw [List.length_map]
        simp
        omega
      rw [hb] at hc
      have hwb : wideB k rows = rows.all (rowOk k rows.length) := by unfold wideB; simp [hw.1, hw.2]
      rw [hwb]
      apply rv_seq
      · exact rv_ifF hc rv_nx
      · refine rv_ret (rv_al (rv_iA (rv_fV rfl) rfl) (alL_map (f := rowD) fun r hr => rv_alI rfl (rv_callX (rv_cons (rv_fV rfl) (rv_cons (rv_fV rfl) (rv_cons (rv_b1 (rv_fV rfl) gv_lenT) rv_nil))) ?_)))
        rw [List.length_map]
        exact is_row_eq r k rows.length (h r hr) (by omega)
    · have hb : (!(decide (2 ≤ k) && decide (k ≤ 4)) || !(decide ((1 : Int) ≤ ((rows.map rowD).length : Nat)) && decide ((((rows.map rowD).length : Nat) : Int) ≤ 200))) = true := by
        rw [List.length_map]
        simp
        omega
      rw [hb] at hc
      have hwb : wideB k rows = false := by
        unfold wideB
        by_cases h1 : 2 ≤ k ∧ k ≤ 4
        · have h2 : ¬ (1 ≤ rows.length ∧ rows.length ≤ 200) := fun z => hw ⟨h1, z⟩
          simp [h1, h2]
        · simp [h1]
      rw [hwb]
      exact rv_seqR (rv_ifT hc (rv_ret rv_fC))
abbrev small (rows : List (List (Int × Int))) : Prop := ∀ r ∈ rows, r.length ≤ 1000
theorem check_wide_eq {k : Int} {rows : List (List (Int × Int))} (h : small rows) : F_check_wide [macD k rows] = if wideB k rows then some (.ok .none) else some (.error (.own "NotMachine")) := by
  have hc : (notT (toT (callX (aCons (fV 0) aNil) F_is_wide))) [some (macD k rows)] = some (.ok (!wideB k rows)) := rv_not (rv_toT (rv_callX (rv_cons (rv_fV rfl) rv_nil) (is_wide_eq k rows h)))
  cases hw : wideB k rows with
  | true =>
    rw [hw] at hc
    exact rv_defN (G := [some (macD k rows)]) rfl rfl (rv_ifF hc rv_nx)
  | false =>
    rw [hw] at hc
    exact rv_defE (G := [some (macD k rows)]) rfl rfl (rv_ifT hc (rv_ra rv_fC))
def goodR (k n : Nat) (r : List (Int × Int)) : Prop := r.length = k ∧ rowOk k n r = true
theorem good_of {k n : Nat} {r : List (Int × Int)} {o : List Int} (h1 : r.map Prod.fst = o) (h2 : o.Perm (rg k)) (h3 : ∀ p ∈ r, 0 ≤ p.2 ∧ p.2 < n) : goodR k n r := by
  refine ⟨?_, ?_⟩
  · have := congrArg List.length h1
    rw [List.length_map, h2.length_eq] at this
    simpa [rg] using this
  · unfold rowOk
    rw [h1, isort_rg h2]
    simp
    exact fun a b h => h3 (a, b) h
abbrev mInner : SX := (seqX (asgX (b2 (b2 (fV 5) (b2 (b2 (fV 8) (fV 2) gMul) (fV 11) gAdd) gIx) (fV 3) gMod) (bNm 12))
  (seqX (ifS (andT (toT (b2 (fV 6) (fC (.int 1)) gEq)) (toT (b2 (fV 11) (b2 (b2 (fV 5) (b2 (fV 8) (fV 2) gMul) gIx) (fV 2) gMod) gNe))) (asgX (b2 (fV 3) (fC (.int 1)) gSub) (bNm 12)) nxX)
  (appX 10 (c1 (aCons (b2 (fV 9) (fV 11) gIx) (aCons (fV 12) aNil)) gTupD))))
section
variable (c c2 kind : Int) (k n : Nat) (vs ts : List Int)
def IInv (rows : PyData) (st : Nat) (o : List Int) (j : Nat) (Γ : Ga) : Prop := ∃ (row : List (Int × Int)) (x y : Option PyData), Γ = [some (.int c), some (.int c2), some (.int k), some (.int n), some (.list (vs.map .int)), some (.list (ts.map .int)), some (.int kind), some rows, some (.int st), some (.tuple (o.map .int)), some (.list (row.map ent)), x, y] ∧
  row.map Prod.fst = o.take j ∧ ∀ p ∈ row, 0 ≤ p.2 ∧ p.2 < (n : Int)
theorem inner_turn (rows : PyData) (st : Nat) (o : List Int) (hk : 2 ≤ k ∧ k ≤ 4) (hn : 1 ≤ n ∧ n ≤ 200) (ht : ts.length = n * k) (hs : st < n) (ho : o.length = k) (j : Nat) (hj : j < k) (Γ : Ga) (h : IInv c c2 kind k n vs ts rows st o j Γ) :
    ∃ Γ1 Γ2, bNm 11 (.int j) Γ = some Γ1 ∧ mInner Γ1 = some (.nx Γ2) ∧ IInv c c2 kind k n vs ts rows st o (j + 1) Γ2 := by
  obtain ⟨row, x, y, rfl, h1, h2⟩ := h
  have hlen : row.length = j := by
    have := congrArg List.length h1
    rw [List.length_map, List.length_take, ho] at this
    omega
  have i1 : st * k + j < ts.length := by
    rw [ht]
    calc st * k + j < st * k + k := by omega
      _ = (st + 1) * k := by rw [Nat.add_mul, Nat.one_mul]
      _ ≤ n * k := Nat.mul_le_mul_right k hs
  have i0 : st * k < ts.length := by omega
  have m0 := Int.emod_nonneg (ts[st * k + j]) (show (n : Int) ≠ 0 by omega)
  have m1 := Int.emod_lt_of_pos (ts[st * k + j]) (show (0 : Int) < n by omega)
  have step : ∀ f : Int, 0 ≤ f → f < n → IInv c c2 kind k n vs ts rows st o (j + 1) [some (.int c), some (.int c2), some (.int k), some (.int n), some (.list (vs.map .int)), some (.list (ts.map .int)), some (.int kind), some rows, some (.int st), some (.tuple (o.map .int)), some (.list (row.map ent ++ [.tuple [.int o[j], .int f]])), some (.int j), some (.int f)] := fun f f0 f1 =>
    ⟨row ++ [(o[j], f)], some (.int j), some (.int f), by simp, by rw [List.map_append, h1, List.take_succ, List.getElem?_eq_getElem (by omega)]; rfl, fun p hp => by
      rcases List.mem_append.mp hp with q | q
      · exact h2 p q
      · rw [List.mem_singleton.mp q]; exact ⟨f0, f1⟩⟩
  have lb : (row.map ent).length < big := by rw [List.length_map, hlen]; unfold big; omega
  have cnd : (andT (toT (b2 (fV 6) (fC (.int 1)) gEq)) (toT (b2 (fV 11) (b2 (b2 (fV 5) (b2 (fV 8) (fV 2) gMul) gIx) (fV 2) gMod) gNe))) [some (.int c), some (.int c2), some (.int k), some (.int n), some (.list (vs.map .int)), some (.list (ts.map .int)), some (.int kind), some rows, some (.int st), some (.tuple (o.map .int)), some (.list (row.map ent)), some (.int j), some (.int (ts[st * k + j] % n))] =
      some (.ok (decide (kind = 1) && !decide ((j : Int) = ts[st * k] % k))) :=
    rv_and (rv_toT (rv_b2 (rv_fV rfl) rv_fC gv_eq)) fun _ => rv_toT (rv_b2 (rv_fV rfl) (rv_b2 (rv_b2 (rv_fV rfl) (rv_b2 (rv_fV rfl) (rv_fV rfl) (gv_mulR (by omega) (by omega))) (gv_ixN (j := st * k) (by rw [Int.natCast_mul]) (int_at i0))) (rv_fV rfl) (gv_mod (by omega))) gv_ne)
  have first : (asgX (b2 (b2 (fV 5) (b2 (b2 (fV 8) (fV 2) gMul) (fV 11) gAdd) gIx) (fV 3) gMod) (bNm 12)) [some (.int c), some (.int c2), some (.int k), some (.int n), some (.list (vs.map .int)), some (.list (ts.map .int)), some (.int kind), some rows, some (.int st), some (.tuple (o.map .int)), some (.list (row.map ent)), some (.int j), y] = some (.nx [some (.int c), some (.int c2), some (.int k), some (.int n), some (.list (vs.map .int)), some (.list (ts.map .int)), some (.int kind), some rows, some (.int st), some (.tuple (o.map .int)), some (.list (row.map ent)), some (.int j), some (.int (ts[st * k + j] % n))]) :=
    rv_asg (rv_b2 (rv_b2 (rv_fV rfl) (rv_b2 (rv_b2 (rv_fV rfl) (rv_fV rfl) (gv_mulR (by omega) (by omega))) (rv_fV rfl) gv_add) (gv_ixN (j := st * k + j) (by rw [Int.natCast_add, Int.natCast_mul]) (int_at i1))) (rv_fV rfl) (gv_mod (by omega))) rfl
  cases hb : (decide (kind = 1) && !decide ((j : Int) = ts[st * k] % k)) with
  | true =>
    rw [hb] at cnd
    refine ⟨_, _, rfl, rv_seq first (rv_seq (rv_ifT cnd (rv_asg (rv_b2 (rv_fV rfl) rv_fC gv_sub) rfl)) (rv_app rfl (rv_c1 (rv_cons (rv_b2 (rv_fV rfl) (rv_fV rfl) (gv_ixTN rfl (int_at (by omega)))) (rv_cons (rv_fV rfl) rv_nil)) gv_T2) lb rfl)), step _ (by omega) (by omega)⟩
  | false =>
    rw [hb] at cnd
    refine ⟨_, _, rfl, rv_seq first (rv_seq (rv_ifF cnd rv_nx) (rv_app rfl (rv_c1 (rv_cons (rv_b2 (rv_fV rfl) (rv_fV rfl) (gv_ixTN rfl (int_at (by omega)))) (rv_cons (rv_fV rfl) rv_nil)) gv_T2) lb rfl)), step _ m0 m1⟩
end
abbrev mOuter : SX := (seqX (asgX (callX (aCons (b2 (fV 4) (fV 8) gIx) (aCons (fV 2) aNil)) F__law_arranged) (bNm 9))
  (seqX (asgX (c1 aNil gLstD) (bNmF 10))
  (seqX (forS (iR1 (fV 2)) (bNm 11) mInner)
  (appX 7 (b1 (fO 10) gTupO)))))
section
variable (c c2 kind : Int) (k n : Nat) (vs ts : List Int)
def OInv (i : Nat) (Γ : Ga) : Prop := ∃ (rows : List (List (Int × Int))) (x8 x9 x10 x11 x12 : Option PyData), Γ = [some (.int c), some (.int c2), some (.int k), some (.int n), some (.list (vs.map .int)), some (.list (ts.map .int)), some (.int kind), some (.list (rows.map rowD)), x8, x9, x10, x11, x12] ∧ rows.length = i ∧ ∀ r ∈ rows, goodR k n r
theorem outer_turn (hk : 2 ≤ k ∧ k ≤ 4) (hn : 1 ≤ n ∧ n ≤ 200) (hv : vs.length = n + 1) (ht : ts.length = n * k) (i : Nat) (Γ : Ga) (hi : i < n) (h : OInv c c2 kind k n vs ts i Γ) :
    ∃ Γ1 Γ2, bNm 8 (.int i) Γ = some Γ1 ∧ mOuter Γ1 = some (.nx Γ2) ∧ OInv c c2 kind k n vs ts (i + 1) Γ2 := by
  obtain ⟨rows, x8, x9, x10, x11, x12, rfl, h1, h2⟩ := h
  obtain ⟨o, ha, ho⟩ := arranged_eq (vs[i]'(by omega)) k (by omega)
  have hol : o.length = k := by rw [ho.length_eq]; simp [rg]
  obtain ⟨Γ', e1, row, x, y, rfl, r1, r2⟩ := forR_inv (b := bNm 11) (s := mInner) (IInv c c2 kind k n vs ts (.list (rows.map rowD)) i o) (n := k)
    (Γ := [some (.int c), some (.int c2), some (.int k), some (.int n), some (.list (vs.map .int)), some (.list (ts.map .int)), some (.int kind), some (.list (rows.map rowD)), some (.int i), some (.tuple (o.map .int)), some (.list []), x11, x12]) ⟨[], x11, x12, rfl, rfl, fun p hp => by cases hp⟩
    (fun j Γ hj h => inner_turn c c2 kind k n vs ts (.list (rows.map rowD)) i o hk hn ht hi hol j hj Γ h)
  rw [← hol, List.take_length] at r1
  have g := good_of r1 ho r2
  have first : asgX (callX (aCons (b2 (fV 4) (fV 8) gIx) (aCons (fV 2) aNil)) F__law_arranged) (bNm 9) [some (.int c), some (.int c2), some (.int k), some (.int n), some (.list (vs.map .int)), some (.list (ts.map .int)), some (.int kind), some (.list (rows.map rowD)), some (.int i), x9, x10, x11, x12] = some (.nx [some (.int c), some (.int c2), some (.int k), some (.int n), some (.list (vs.map .int)), some (.list (ts.map .int)), some (.int kind), some (.list (rows.map rowD)), some (.int i), some (.tuple (o.map .int)), x10, x11, x12]) :=
    rv_asg (rv_callX (rv_cons (rv_b2 (rv_fV rfl) (rv_fV rfl) (gv_ixN rfl (int_at (by omega)))) (rv_cons (rv_fV rfl) rv_nil)) ha) rfl
  refine ⟨_, [some (.int c), some (.int c2), some (.int k), some (.int n), some (.list (vs.map .int)), some (.list (ts.map .int)), some (.int kind), some (.list (rows.map rowD ++ [rowD row])), some (.int i), some (.tuple (o.map .int)), some (.list (row.map ent)), x, y], rfl,
    rv_seq first (rv_seq (rv_asg (rv_c1 rv_nil gv_L0) rfl) (rv_seq (rv_for (rv_iR1 (rv_fV rfl) (by unfold rgB; omega)) e1) (rv_app rfl (rv_b1 (rv_fOl rfl) gv_tupL) (by rw [List.length_map, h1]; unfold big; omega) rfl))), rows ++ [row], some (.int i), some (.tuple (o.map .int)), some (.list (row.map ent)), x, y, by simp, by simp [h1], fun r hr => ?_⟩
  rcases List.mem_append.mp hr with q | q
  · exact h2 r q
  · rw [List.mem_singleton.mp q]; exact g
end
theorem machine_eq (c c2 : Int) (k n : Nat) (hk : 2 ≤ k ∧ k ≤ 4) (hn : 1 ≤ n ∧ n ≤ 200) : ∃ rows : List (List (Int × Int)), F__law_machine [.int c, .int c2, .int k, .int n] = some (.ok (macD k rows)) ∧ rows.length = n ∧ ∀ r ∈ rows, goodR k n r := by
  have hnk : n * k ≤ 10000 := Nat.le_trans (Nat.mul_le_mul hn.2 hk.2) (by omega)
  obtain ⟨vs, v1, v2, v3⟩ := values_eq c (n + 1) 997 (by omega) (by omega) (by omega)
  obtain ⟨ts, t1, t2, t3⟩ := values_eq c2 (n * k) 997 hnk (by omega) (by omega)
  have v1' : F__law_values [.int c, .int ((n : Int) + 1), .int 997] = some (.ok (.list (vs.map .int))) := v1
  have t1' : F__law_values [.int c2, .int ((n : Int) * (k : Int)), .int 997] = some (.ok (.list (ts.map .int))) := by rw [← Int.natCast_mul]; exact t1
  obtain ⟨kind, hkind⟩ : ∃ kind : Int, kind = vs[n]'(by omega) % 4 := ⟨_, rfl⟩
  obtain ⟨Γ', e1, rows, x8, x9, x10, x11, x12, rfl, r1, r2⟩ := forR_inv (b := bNm 8) (s := mOuter) (OInv c c2 kind k n vs ts) (n := n)
    (Γ := [some (.int c), some (.int c2), some (.int k), some (.int n), some (.list (vs.map .int)), some (.list (ts.map .int)), some (.int kind), some (.list []), none, none, none, none, none]) ⟨[], none, none, none, none, none, rfl, rfl, fun p hp => by cases hp⟩
    (fun i Γ hi h => outer_turn c c2 kind k n vs ts hk hn v2 t2 i Γ hi h)
  have gl : goodR k n ((rg k).map fun d => (d, (n : Int) - 1)) := good_of (o := rg k) (by rw [List.map_map]; simp [Function.comp_def]) (List.Perm.refl _) fun p hp => by
    obtain ⟨d, _, rfl⟩ := List.mem_map.mp hp
    exact ⟨by show (0 : Int) ≤ n - 1; omega, by show (n : Int) - 1 < n; omega⟩
  have lastR : (lcX (iR1 (fV 2)) [11] (bNm 11) fYes (c1 (aCons (fV 11) (aCons (b2 (fV 3) (fC (.int 1)) gSub) aNil)) gTupD)) [some (.int c), some (.int c2), some (.int k), some (.int n), some (.list (vs.map .int)), some (.list (ts.map .int)), some (.int kind), some (.list (rows.map rowD)), x8, x9, x10, x11, x12] = some (.ok (.list (((rg k).map fun d => (d, (n : Int) - 1)).map ent))) := by
    have hl := lcL_map (item := lcI [11] (bNm 11) fYes (c1 (aCons (fV 11) (aCons (b2 (fV 3) (fC (.int 1)) gSub) aNil)) gTupD) [some (.int c), some (.int c2), some (.int k), some (.int n), some (.list (vs.map .int)), some (.list (ts.map .int)), some (.int kind), some (.list (rows.map rowD)), x8, x9, x10, x11, x12]) (f := PyData.int) (g := fun d => ent (d, (n : Int) - 1)) (l := rg k) fun d _ => rv_lcI rfl (rv_c1 (rv_cons (rv_fV rfl) (rv_cons (rv_b2 (rv_fV rfl) rv_fC gv_sub) rv_nil)) gv_T2)
    rw [← rgD_rg] at hl
    have e : ((rg k).map fun d => (d, (n : Int) - 1)).map ent = (rg k).map fun d => ent (d, (n : Int) - 1) := by rw [List.map_map]; rfl
    rw [e]
    exact rv_lc (rv_iR1 (rv_fV rfl) (by unfold rgB; omega)) (by rw [rgD_len]; unfold big; omega) hl
  have cnd : (orT (toT (b2 (fV 6) (fC (.int 1)) gEq)) (toT (b2 (fV 6) (fC (.int 2)) gEq))) [some (.int c), some (.int c2), some (.int k), some (.int n), some (.list (vs.map .int)), some (.list (ts.map .int)), some (.int kind), some (.list (rows.map rowD)), x8, x9, x10, x11, x12] = some (.ok (decide (kind = 1) || decide (kind = 2))) := rv_or (rv_toT (rv_b2 (rv_fV rfl) rv_fC gv_eq)) fun _ => rv_toT (rv_b2 (rv_fV rfl) rv_fC gv_eq)
  have start : ∀ r, (seqX (ifS (orT (toT (b2 (fV 6) (fC (.int 1)) gEq)) (toT (b2 (fV 6) (fC (.int 2)) gEq))) (setX 7 (b2 (fV 3) (fC (.int 1)) gSub) (b1 (lcX (iR1 (fV 2)) [11] (bNm 11) fYes (c1 (aCons (fV 11) (aCons (b2 (fV 3) (fC (.int 1)) gSub) aNil)) gTupD)) gTupO)) nxX)
      (retX (c1 (aCons (fV 2) (aCons (b1 (fO 7) gTupO) aNil)) gTupD))) [some (.int c), some (.int c2), some (.int k), some (.int n), some (.list (vs.map .int)), some (.list (ts.map .int)), some (.int kind), some (.list (rows.map rowD)), x8, x9, x10, x11, x12] = r →
      p__law_machine [some (.int c), some (.int c2), some (.int k), some (.int n), none, none, none, none, none, none, none, none, none] = r := fun r hr => by
    unfold p__law_machine
    refine rv_seq (rv_asg (rv_callX (rv_cons (rv_fV rfl) (rv_cons (rv_b2 (rv_fV rfl) rv_fC gv_add) (rv_cons rv_fC rv_nil))) v1') rfl) ?_
    · refine rv_seq (rv_asg (rv_callX (rv_cons (rv_fV rfl) (rv_cons (rv_b2 (rv_fV rfl) (rv_fV rfl) (gv_mulR (by omega) (by omega))) (rv_cons rv_fC rv_nil))) t1') rfl) ?_
      refine rv_seq (rv_asg (rv_b2 (rv_b2 (rv_fV rfl) (rv_fV rfl) (gv_ixN rfl (int_at (by omega)))) rv_fC (gv_mod (by omega))) rfl) ?_
      rw [← hkind]
      exact rv_seq (rv_asg (rv_c1 rv_nil gv_L0) rfl) (rv_seq (rv_for (rv_iR1 (rv_fV rfl) (by unfold rgB; omega)) e1) hr)
  cases hb : (decide (kind = 1) || decide (kind = 2)) with
  | true =>
    rw [hb] at cnd
    refine ⟨rows.set (n - 1) ((rg k).map fun d => (d, (n : Int) - 1)), ?_, by simp [r1], fun r hr => ?_⟩
    · refine rv_def (G := [some (.int c), some (.int c2), some (.int k), some (.int n), none, none, none, none, none, none, none, none, none]) rfl rfl (start _ ?_)
      refine rv_seq (rv_ifT cnd (rv_set (rv_b1 lastR gv_tupL) rfl (rv_b2 (rv_fV rfl) rv_fC gv_sub) (ixN_nat (by omega) (by rw [List.length_map, r1]; omega)) rfl)) (rv_ret (rv_c1 (rv_cons (rv_fV rfl) (rv_cons (rv_b1 (rv_fOl rfl) gv_tupL) rv_nil)) ?_))
      rw [gv_T2]
      show some (PyData.tuple [_, .tuple ((rows.map rowD).set ((n : Int) - 1).toNat (rowD _))]) = some (macD k _)
      rw [show ((n : Int) - 1).toNat = n - 1 by omega, ← List.map_set]
    · rcases List.mem_or_eq_of_mem_set hr with q | q
      · exact r2 r q
      · rw [q]; exact gl
  | false =>
    rw [hb] at cnd
    exact ⟨rows, rv_def (G := [some (.int c), some (.int c2), some (.int k), some (.int n), none, none, none, none, none, none, none, none, none]) rfl rfl (start _ (rv_seq (rv_ifF cnd rv_nx) (rv_ret (rv_c1 (rv_cons (rv_fV rfl) (rv_cons (rv_b1 (rv_fOl rfl) gv_tupL) rv_nil)) gv_T2)))), r1, r2⟩
theorem wide_of {k n : Nat} {rows : List (List (Int × Int))} (hk : 2 ≤ k ∧ k ≤ 4) (hn : 1 ≤ n ∧ n ≤ 200) (h1 : rows.length = n) (h2 : ∀ r ∈ rows, goodR k n r) : wideB k rows = true := by
  unfold wideB
  have : rows.all (rowOk k rows.length) = true := List.all_eq_true.mpr fun r hr => by rw [h1]; exact (h2 r hr).2
  rw [this]
  simp
  omega
theorem gv_rep {r : List (Int × Int)} {i : Int} (h1 : 2 ≤ i) (h2 : i ≤ 1000) : gMul (.tuple [rowD r]) (.int i) = some (.tuple ((List.replicate i.toNat r).map rowD)) := by
  have : gMul (.tuple [rowD r]) (.int i) = some (.tuple (List.replicate i.toNat [rowD r]).flatten) := if_pos ⟨by simp, h1, h2, by simp⟩
  rw [this]
  congr 2
  induction i.toNat with
  | zero => rfl
  | succ n ih => rw [List.replicate_succ, List.flatten_cons, ih, List.replicate_succ]; rfl
end M

set_option Elab.async false
set_option linter.all false
set_option maxRecDepth 100000
set_option maxHeartbeats 4000000
namespace M
open PySem PySem.Spec PyProof.Rows L2 Z D
/-! ## reading -/
/-- the entry of a state at a digit -/
def en (rows : Rows) (s d : Nat) : Int × Int := (rows.getD s []).getD d (0, 0)
def rd (rows : Rows) : Nat → List Nat → List Nat × Nat
  | s, [] => ([], s)
  | s, d :: ds => ((en rows s d).1.toNat :: (rd rows (en rows s d).2.toNat ds).1, (rd rows (en rows s d).2.toNat ds).2)
structure Good (k : Nat) (rows : Rows) : Prop where
  k2 : 2 ≤ k ∧ k ≤ 4
  n2 : 1 ≤ rows.length ∧ rows.length ≤ 200
  ok : ∀ r ∈ rows, goodR k rows.length r
theorem Good.small {k : Nat} {rows : Rows} (G : Good k rows) : small rows := fun r hr => by rw [(G.ok r hr).1]; have := G.k2; omega
theorem Good.wide {k : Nat} {rows : Rows} (G : Good k rows) : wideB k rows = true := wide_of G.k2 G.n2 rfl G.ok
theorem perm_of_isort {o : List Int} {k : Nat} (h : isort o = rg k) : o.Perm (rg k) := by
  rw [← h]; exact (List.mergeSort_perm o _).symm
theorem mem_rg {k : Nat} {x : Int} : x ∈ rg k ↔ 0 ≤ x ∧ x < k := by
  unfold rg
  rw [List.mem_map]
  constructor
  · rintro ⟨i, h1, rfl⟩
    have := List.mem_range.mp h1
    omega
  · rintro ⟨h1, h2⟩
    exact ⟨x.toNat, List.mem_range.mpr (by omega), by omega⟩
theorem goodR_parts {k n : Nat} {r : List (Int × Int)} (h : goodR k n r) : r.length = k ∧ (r.map Prod.fst).Perm (rg k) ∧ ∀ p ∈ r, 0 ≤ p.2 ∧ p.2 < n := by
  obtain ⟨h1, h2⟩ := h
  unfold rowOk at h2
  rw [Bool.and_eq_true] at h2
  refine ⟨h1, perm_of_isort (of_decide_eq_true h2.1), fun p hp => ?_⟩
  have := List.all_eq_true.mp h2.2 p hp
  exact of_decide_eq_true this
theorem Good.row {k : Nat} {rows : Rows} (G : Good k rows) {s : Nat} (hs : s < rows.length) : rows[s]? = some (rows.getD s []) ∧ goodR k rows.length (rows.getD s []) := by
  have e : rows.getD s [] = rows[s] := by simp [hs]
  rw [e]
  exact ⟨by simp [hs], G.ok _ (List.getElem_mem hs)⟩
theorem Good.en {k : Nat} {rows : Rows} (G : Good k rows) {s d : Nat} (hs : s < rows.length) (hd : d < k) : (rows.getD s [])[d]? = some (en rows s d) ∧ (0 ≤ (M.en rows s d).1 ∧ (M.en rows s d).1 < k) ∧ 0 ≤ (M.en rows s d).2 ∧ (M.en rows s d).2 < rows.length := by
  obtain ⟨h1, h2⟩ := G.row hs
  obtain ⟨h3, h4, h5⟩ := goodR_parts h2
  have lt : d < (rows.getD s []).length := by omega
  have e : M.en rows s d = (rows.getD s [])[d] := by unfold M.en; rw [List.getD_eq_getElem?_getD, List.getElem?_eq_getElem lt]; rfl
  rw [e]
  have m := List.getElem_mem lt
  refine ⟨by simp [lt], mem_rg.mp (h4.mem_iff.mp (List.mem_map_of_mem m)), h5 _ m⟩
/-- the entry, as the program finds it -/
theorem gv_row {k : Nat} {rows : Rows} (G : Good k rows) {s : Nat} (hs : s < rows.length) : gIx (.tuple (rows.map rowD)) (.int (s : Int)) = some (rowD (rows.getD s [])) := gv_ixTN rfl (by rw [List.getElem?_map, (G.row hs).1]; rfl)
theorem gv_ent {k : Nat} {rows : Rows} (G : Good k rows) {s d : Nat} (hs : s < rows.length) (hd : d < k) : gIx (rowD (rows.getD s [])) (.int (d : Int)) = some (.tuple [.int ((en rows s d).1.toNat : Int), .int ((en rows s d).2.toNat : Int)]) := by
  obtain ⟨h1, h2, h3⟩ := G.en hs hd
  refine gv_ixTN rfl ?_
  rw [List.getElem?_map, h1, Int.toNat_of_nonneg h2.1, Int.toNat_of_nonneg h3.1]
  rfl
theorem rd_ok {k : Nat} {rows : Rows} (G : Good k rows) : ∀ (ds : List Nat) (s : Nat), s < rows.length → (∀ d ∈ ds, d < k) → (rd rows s ds).1.length = ds.length ∧ (∀ d ∈ (rd rows s ds).1, d < k) ∧ (rd rows s ds).2 < rows.length
  | [], s, hs, _ => ⟨rfl, ⟨fun _ h => (nomatch h), hs⟩⟩
  | d :: ds, s, hs, hd => by
    obtain ⟨_, h2, h3⟩ := G.en hs (hd d List.mem_cons_self)
    obtain ⟨i1, i2, i3⟩ := rd_ok G ds (en rows s d).2.toNat (by omega) fun e he => hd e (List.mem_cons_of_mem _ he)
    refine ⟨by simp [rd, i1], fun e he => ?_, i3⟩
    rcases List.mem_cons.mp he with q | q
    · rw [q]; omega
    · exact i2 e q
theorem rd_app (rows : Rows) : ∀ (a b : List Nat) (s : Nat), rd rows s (a ++ b) = ((rd rows s a).1 ++ (rd rows (rd rows s a).2 b).1, (rd rows (rd rows s a).2 b).2)
  | [], b, s => rfl
  | d :: a, b, s => by
    simp only [List.cons_append, rd, rd_app rows a b]
theorem rv_callXE {F : FX} {pa : PAx} {Γ : Ga} {ds : List PyData} {er : Er} (h1 : pa Γ = some (.ok ds)) (h2 : F ds = some (.error er)) : callX pa F Γ = some (.error er) := rv_callX h1 h2
end M

set_option Elab.async false
set_option linter.all false
set_option maxRecDepth 100000
set_option maxHeartbeats 4000000
namespace M
open PySem PySem.Spec PyProof.Rows L2 Z D

theorem outs_perm {k : Nat} {rows : Rows} (G : Good k rows) {s : Nat} (hs : s < rows.length) : ((List.range k).map fun d => (en rows s d).1.toNat).Perm (List.range k) := by
  obtain ⟨h1, h2⟩ := G.row hs
  obtain ⟨h3, h4, h5⟩ := goodR_parts h2
  have e : ((rows.getD s []).map Prod.fst) = (List.range k).map fun d => (en rows s d).1 := by
    apply List.ext_getElem?
    intro i
    rw [List.getElem?_map, List.getElem?_map]
    by_cases hi : i < k
    · rw [(G.en hs hi).1, List.getElem?_range hi]; rfl
    · rw [List.getElem?_eq_none (by omega), List.getElem?_eq_none (by simp; omega)]; rfl
  have p := (e ▸ h4).map Int.toNat
  rw [List.map_map] at p
  unfold rg at p
  rw [List.map_map] at p
  have e2 : (Int.toNat ∘ fun (i : Nat) => (i : Int)) = id := by funext i; simp
  rw [e2, List.map_id] at p
  exact p
theorem gv_slRows {rows : Rows} {lo hi : Option Int} : gSl (.tuple (rows.map rowD)) lo hi = some (.tuple ((Z.cutD rows lo hi).map rowD)) := by rw [← cutD_map]; rfl
theorem gv_mulZ {k : Nat} (h : 2 ≤ k ∧ k ≤ 1000) : gMul (.tuple [.tuple [.int 0, .int 0]]) (.int k) = some (rowD (List.replicate k (0, 0))) := by
  have : gMul (.tuple [.tuple [.int 0, .int 0]]) (.int k) = some (.tuple (List.replicate ((k : Int)).toNat [ent (0, 0)]).flatten) := if_pos ⟨by simp, by omega, by omega, by simp⟩
  rw [this, Int.toNat_natCast]
  congr 2
  clear this h
  induction k with
  | zero => rfl
  | succ n ih => rw [List.replicate_succ, List.flatten_cons, ih, List.replicate_succ]; rfl
theorem gv_addRows {a : Rows} {r : List (Int × Int)} (h : a.length ≤ 1000) : gAdd (.tuple (a.map rowD)) (.tuple [rowD r]) = some (.tuple ((a ++ [r]).map rowD)) := by
  have : gAdd (.tuple (a.map rowD)) (.tuple [rowD r]) = some (.tuple (a.map rowD ++ [rowD r])) := if_pos (by simp; unfold big; omega)
  rw [this]
  simp
end M

set_option Elab.async false
set_option linter.all false
set_option maxRecDepth 100000
set_option maxHeartbeats 4000000
namespace M
open PySem PySem.Spec PyProof.Rows L2 Z D

/-! ## things at their places -/
def put {α : Type} : List α → List α → List Nat → List α
  | M, d :: ds, p :: ps => put (M.set p d) ds ps
  | M, _, _ => M
theorem put_len {α : Type} : ∀ (ds : List α) (ps : List Nat) (M : List α), (put M ds ps).length = M.length
  | [], [], M => rfl
  | [], _ :: _, M => rfl
  | _ :: _, [], M => rfl
  | d :: ds, p :: ps, M => by rw [put, put_len ds ps]; exact List.length_set
theorem put_keep {α : Type} : ∀ (ds : List α) (ps : List Nat) (M : List α) (j : Nat), j ∉ ps → (put M ds ps)[j]? = M[j]?
  | [], [], M, j, _ => rfl
  | [], _ :: _, M, j, _ => rfl
  | _ :: _, [], M, j, _ => rfl
  | d :: ds, p :: ps, M, j, h => by
    rw [put, put_keep ds ps _ j (fun z => h (List.mem_cons_of_mem _ z)), List.getElem?_set_ne (fun z => h (by rw [z]; exact List.mem_cons_self))]
theorem put_get {α : Type} : ∀ (ds : List α) (ps : List Nat) (M : List α) (i : Nat) (d : α) (p : Nat), ps.Nodup → (∀ q ∈ ps, q < M.length) → ds[i]? = some d → ps[i]? = some p → (put M ds ps)[p]? = some d
  | [], _, M, i, d, p, _, _, h, _ => by simp at h
  | _ :: _, [], M, i, d, p, _, _, _, h => by simp at h
  | e :: ds, q :: ps, M, 0, d, p, nd, hM, h1, h2 => by
    have e1 : e = d := by simpa using h1
    have e2 : q = p := by simpa using h2
    subst e1 e2
    rw [put, put_keep ds ps _ q (List.nodup_cons.mp nd).1]
    exact List.getElem?_set_self (hM q List.mem_cons_self)
  | e :: ds, q :: ps, M, i + 1, d, p, nd, hM, h1, h2 => by
    rw [put]
    exact put_get ds ps _ i d p (List.nodup_cons.mp nd).2 (fun r hr => by rw [List.length_set]; exact hM r (List.mem_cons_of_mem _ hr)) (by simpa using h1) (by simpa using h2)
theorem place_loop (a0 a1 : Option PyData) : ∀ (ds : List PyData) (ps : List Nat) (M : List PyData) (x y : Option PyData), (∀ p ∈ ps, p < M.length) → ds.length = ps.length →
    ∃ x' y', forX (bTup 2 (bCons (bNm 3) (bCons (bNm 4) bNil))) (setX 2 (fV 4) (fV 3)) (List.zipWith pairD ds (ps.map fun (p : Nat) => PyData.int (p : Int))) [a0, a1, some (.list M), x, y] = some (.nx [a0, a1, some (.list (put M ds ps)), x', y'])
  | [], [], M, x, y, _, _ => ⟨x, y, rfl⟩
  | [], _ :: _, M, x, y, _, h => by simp at h
  | _ :: _, [], M, x, y, _, h => by simp at h
  | d :: ds, p :: ps, M, x, y, hM, hl => by
    obtain ⟨x', y', ih⟩ := place_loop a0 a1 ds ps (M.set p d) (some d) (some (.int p)) (fun q hq => by rw [List.length_set]; exact hM q (List.mem_cons_of_mem _ hq)) (by simpa using hl)
    refine ⟨x', y', ?_⟩
    rw [List.map_cons, List.zipWith_cons_cons, put]
    refine forX_cons rfl ?_ ih
    exact rv_set (rv_fV rfl) rfl (rv_fV rfl) (ixN_nat (i := (p : Int)) (by omega) (by have := hM p List.mem_cons_self; omega)) rfl
theorem gv_repL {n : Nat} (h : n ≤ 1000) : gRepF (.list [.none]) (.int (n : Int)) = some (.list (List.replicate ((n : Int)).toNat [PyData.none]).flatten) := by
  unfold gRepF
  have c : -(2 ^ 63) ≤ (n : Int) ∧ (n : Int) < 2 ^ 63 ∧ [PyData.none].length * ((n : Int)).toNat ≤ big := by
    refine ⟨by omega, by omega, ?_⟩
    rw [Int.toNat_natCast, List.length_singleton, Nat.one_mul]
    unfold big
    omega
  simp only [if_pos c]
theorem range_map_get {α : Type} (out : List α) (z : α) : (List.range out.length).map (fun p => out.getD p z) = out := by
  apply List.ext_getElem?
  intro i
  rw [List.getElem?_map]
  by_cases h : i < out.length
  · rw [List.getElem?_range h]
    simp [h]
  · rw [List.getElem?_eq_none (by simpa using h), List.getElem?_eq_none (by omega)]
    rfl
/-- out has the things of ds, each at its place -/
structure Placed {α : Type} (ds : List α) (ps : List Nat) (out : List α) : Prop where
  len : out.length = ds.length
  at_ : ∀ (i : Nat) (d : α) (p : Nat), ds[i]? = some d → ps[i]? = some p → out[p]? = some d
theorem Placed.perm {α : Type} {ds out : List α} {ps : List Nat} (h : Placed ds ps out) (hp : ps.Perm (List.range ds.length)) : out.Perm ds := by
  cases ds with
  | nil => have := h.len; simp at this; subst this; exact .refl _
  | cons d0 r =>
    have hl := hp.length_eq
    rw [List.length_range] at hl
    have e : (d0 :: r) = ps.map fun p => out.getD p d0 := by
      apply List.ext_getElem?
      intro i
      rw [List.getElem?_map]
      by_cases hi : i < (d0 :: r).length
      · have h1 : (d0 :: r)[i]? = some (d0 :: r)[i] := List.getElem?_eq_getElem hi
        have h2 : ps[i]? = some ps[i] := List.getElem?_eq_getElem (by omega)
        have h3 := h.at_ i _ _ h1 h2
        rw [h1, h2]
        show some _ = some (out.getD ps[i] d0)
        rw [List.getD_eq_getElem?_getD, h3]
        rfl
      · rw [List.getElem?_eq_none (by omega), List.getElem?_eq_none (by omega)]
        rfl
    have p1 := hp.map fun p => out.getD p d0
    rw [← e, ← h.len, range_map_get] at p1
    exact p1.symm
theorem place_eq {α : Type} (f : α → PyData) (ds : List α) (ps : List Nat) (hp : ps.Perm (List.range ds.length)) (hl : ds.length ≤ 1000) : ∃ out : List α, F_arranged [.list (ds.map f), .list (ps.map fun (p : Nat) => PyData.int (p : Int))] = some (.ok (.tuple (out.map f))) ∧ Placed ds ps out := by
  have hn := hp.length_eq
  rw [List.length_range] at hn
  have nd : ps.Nodup := hp.nodup_iff.mpr List.nodup_range
  have lt : ∀ p ∈ ps, p < ds.length := fun p h => List.mem_range.mp (hp.mem_iff.mp h)
  obtain ⟨x', y', h⟩ := place_loop (some (.list (ds.map f))) (some (.list (ps.map fun (p : Nat) => PyData.int (p : Int)))) (ds.map f) ps (List.replicate ds.length .none) none none (fun p hp => by rw [List.length_replicate]; exact lt p hp) (by rw [List.length_map, hn])
  -- the result, item by item
  have all : ∀ j, j < ds.length → ∃ (i : Nat) (d : α), ps[i]? = some j ∧ ds[i]? = some d := fun j hj => by
    have m : j ∈ ps := hp.mem_iff.mpr (List.mem_range.mpr hj)
    obtain ⟨i, hi⟩ := List.mem_iff_getElem?.mp m
    have : i < ps.length := (List.getElem?_eq_some_iff.mp hi).1
    exact ⟨i, ds[i], hi, List.getElem?_eq_getElem (by omega)⟩
  have key : ∀ (i : Nat) (d : α) (p : Nat), ds[i]? = some d → ps[i]? = some p → (put (List.replicate ds.length PyData.none) (ds.map f) ps)[p]? = some (f d) := fun i d p h1 h2 => put_get _ _ _ i (f d) p nd (fun q hq => by rw [List.length_replicate]; exact lt q hq) (by rw [List.getElem?_map, h1]; rfl) h2
  have hput := put_len (ds.map f) ps (List.replicate ds.length PyData.none)
  rw [List.length_replicate] at hput
  obtain ⟨out, ho, hl2⟩ : ∃ out : List α, put (List.replicate ds.length PyData.none) (ds.map f) ps = out.map f ∧ ∀ (i : Nat) (d : α) (p : Nat), ds[i]? = some d → ps[i]? = some p → out[p]? = some d := by
    cases ds with
    | nil =>
      refine ⟨[], List.eq_nil_of_length_eq_zero (by simpa using hput), fun i d p h1 => by simp at h1⟩
    | cons d0 r =>
      have tot : ∀ j, ∃ d, j < (d0 :: r).length → ∃ i, ps[i]? = some j ∧ (d0 :: r)[i]? = some d := fun j => by
        by_cases hj : j < (d0 :: r).length
        · obtain ⟨i, d, h1, h2⟩ := all j hj
          exact ⟨d, fun _ => ⟨i, h1, h2⟩⟩
        · exact ⟨d0, fun z => absurd z hj⟩
      have cf := Classical.axiomOfChoice tot
      obtain ⟨g, hg⟩ := cf
      refine ⟨(List.range (d0 :: r).length).map g, ?_, fun i d p h1 h2 => ?_⟩
      · apply List.ext_getElem?
        intro j
        rw [List.map_map, List.getElem?_map]
        by_cases hj : j < (d0 :: r).length
        · obtain ⟨i, h1, h2⟩ := hg j hj
          rw [List.getElem?_range hj, key i _ j h2 h1]
          rfl
        · rw [List.getElem?_eq_none (by omega), List.getElem?_eq_none (by simpa using hj)]
          rfl
      · have pl : p < (d0 :: r).length := lt p (List.mem_iff_getElem?.mpr ⟨i, h2⟩)
        obtain ⟨i', h3, h4⟩ := hg p pl
        rw [List.getElem?_map, List.getElem?_range pl]
        have ii : i = i' := by
          have a1 : i < ps.length := (List.getElem?_eq_some_iff.mp h2).1
          exact (List.getElem?_inj a1 nd).mp (h2.trans h3.symm)
        subst ii
        rw [h1] at h4
        exact congrArg some (Option.some.inj h4).symm
  refine ⟨out, ?_, ⟨?_, hl2⟩⟩
  · rw [ho] at h
    refine rv_def rfl rfl ?_
    unfold p_arranged
    apply rv_seq_asg
    · exact rv_b2 (rv_c1 (rv_cons rv_fC rv_nil) gv_L1) (rv_b1 (rv_fV rfl) gv_lenL) (show gRepF _ _ = some (.list (List.replicate ds.length .none)) from by
        rw [List.length_map]
        have e : (List.replicate ((ds.length : Int)).toNat [PyData.none]).flatten = List.replicate ds.length PyData.none := by
          rw [Int.toNat_natCast]
          generalize ds.length = n
          induction n with
          | zero => rfl
          | succ n ih => rw [List.replicate_succ, List.flatten_cons, ih]; rfl
        rw [← e]
        exact gv_repL (by omega))
    · rfl
    refine rv_seq_for (show zipY (fV 0) (fV 1) _ = some (.ok (List.zipWith pairD (ds.map f) (ps.map fun (p : Nat) => PyData.int (p : Int)))) from rfl) h ?_
    (repeat (first
    | ((with_reducible apply rv_fV) ; rfl)
    | with_reducible exact rv_fC
    | with_reducible apply rv_b2
    | with_reducible apply rv_b1
    | with_reducible apply rv_b2s
    | with_reducible exact gv_add
    | with_reducible exact Z.gv_sub
    | with_reducible exact gv_lt
    | with_reducible exact gv_le
    | with_reducible exact gv_gt
    | with_reducible exact gv_ge
    | with_reducible exact gv_eq
    | with_reducible exact gv_ne
    | with_reducible exact gv_eqSS
    | with_reducible exact gv_neSS
    | with_reducible exact gv_neg
    | with_reducible exact gv_int
    | with_reducible exact gv_lenL
    | with_reducible exact gv_lenT
    | with_reducible exact gv_tupL
    | with_reducible exact gv_tupT
    | with_reducible exact gv_lstT
    | with_reducible exact gv_lstL
    | with_reducible exact gv_inRg
    | with_reducible exact gv_ninRg
    | with_reducible exact gv_L0
    | with_reducible exact gv_L1
    | with_reducible exact gv_T0
    | with_reducible exact gv_T1
    | with_reducible exact gv_T2
    | with_reducible exact gv_p12
    | with_reducible exact gv_ix0
    | with_reducible exact gv_ix1
    | with_reducible exact gv_slL
    | with_reducible exact gv_mod (by omega)
    | with_reducible exact rv_nil
    | with_reducible apply rv_cons
    | with_reducible apply rv_c1
    | with_reducible apply rv_callX
    | with_reducible apply rv_toT
    | with_reducible apply rv_not
    | with_reducible apply rv_s3
    | with_reducible exact rv_oNone
    | with_reducible apply rv_oSome
    | with_reducible apply rv_seq_asg
    | ((with_reducible apply bx_nm) ; rfl)
    | ((with_reducible apply bx_nmF) ; rfl)
    | ((with_reducible apply bx_tup) ; rfl)
    | with_reducible apply rv_seq_drop
    | with_reducible apply rv_seq_nxX
    | with_reducible apply rv_seq_seq
    | with_reducible apply rv_seq_ret
    | with_reducible apply rv_seq_app
    | with_reducible apply rv_asg
    | with_reducible apply rv_app
    | ((with_reducible apply rv_fOl) ; rfl)
    | with_reducible apply rv_ret
    | with_reducible apply rv_drop
    | ((with_reducible apply nx_is) ; rfl)
    | ((with_reducible apply slot_is) ; rfl)
    | ((with_reducible apply set_is) ; rfl)))
  · have := congrArg List.length ho
    rw [hput, List.length_map] at this
    exact this.symm
end M

set_option Elab.async false
set_option linter.all false
set_option maxRecDepth 100000
set_option maxHeartbeats 4000000
namespace M
open PySem PySem.Spec PyProof.Rows L2 Z D

/-! ## undoing -/
/-- r' undoes r -/
structure UndR (k : Nat) (r r' : List (Int × Int)) : Prop where
  len : r'.length = k
  at_ : ∀ (x : Nat) (p : Int × Int), r[x]? = some p → r'[p.1.toNat]? = some ((x : Int), p.2)
  perm : (r'.map Prod.fst).Perm (rg k)
  snd : ∀ q ∈ r', ∃ p ∈ r, p.2 = q.2
def ents (i : Nat) : List (Int × Int) → List (Int × Int)
  | [] => []
  | p :: r => ((i : Int), p.2) :: ents (i + 1) r
theorem ents_get : ∀ (r : List (Int × Int)) (i x : Nat), (ents i r)[x]? = (r[x]?).map fun p => (((i + x : Nat) : Int), p.2)
  | [], i, x => by simp [ents]
  | p :: r, i, 0 => by simp [ents]
  | p :: r, i, x + 1 => by
    rw [ents, List.getElem?_cons_succ, List.getElem?_cons_succ, ents_get r (i + 1) x]
    congr 1
    funext q
    rw [show i + 1 + x = i + (x + 1) by omega]
theorem ents_len : ∀ (r : List (Int × Int)) (i : Nat), (ents i r).length = r.length
  | [], _ => rfl
  | p :: r, i => by rw [ents, List.length_cons, List.length_cons, ents_len r]
theorem ents_fst (r : List (Int × Int)) : (ents 0 r).map Prod.fst = rg r.length := by
  apply List.ext_getElem?
  intro x
  unfold rg
  rw [List.getElem?_map, ents_get, List.getElem?_map]
  by_cases h : x < r.length
  · rw [List.getElem?_range h, List.getElem?_eq_getElem h]
    simp
  · rw [List.getElem?_eq_none (by omega : r.length ≤ x), List.getElem?_eq_none (by simpa using h), Option.map_none, Option.map_none, Option.map_none]
theorem enD_ents : ∀ (r : List (Int × Int)) (i : Nat) {item : PyData → Option (Option PyData)}, (∀ (i : Nat) (p : Int × Int), item (.tuple [.int (i : Int), ent p]) = some (some (ent ((i : Int), p.2)))) → lcL item (enD i (r.map ent)) = some ((ents i r).map ent)
  | [], _, _, _ => rfl
  | p :: r, i, item, h => by
    rw [List.map_cons, enD, ents, List.map_cons, lcL, h i p]
    simp only [enD_ents r (i + 1) h, Option.map_some]
theorem undone_row_eq {k n : Nat} {r : List (Int × Int)} (h : goodR k n r) (hk : k ≤ 4) : ∃ r' : List (Int × Int), F_undone_row [rowD r] = some (.ok (rowD r')) ∧ UndR k r r' := by
  obtain ⟨h1, h2, h3⟩ := goodR_parts h
  have pp : (r.map fun p => p.1.toNat).Perm (List.range (ents 0 r).length) := by
    have p := h2.map Int.toNat
    rw [List.map_map] at p
    unfold rg at p
    rw [List.map_map] at p
    have e2 : (Int.toNat ∘ fun (i : Nat) => (i : Int)) = id := by funext i; simp
    rw [e2, List.map_id] at p
    rw [ents_len, h1]
    exact p
  obtain ⟨out, e1, pl⟩ := place_eq ent (ents 0 r) (r.map fun p => p.1.toNat) pp (by rw [ents_len]; omega)
  refine ⟨out, ?_, ⟨by rw [pl.len, ents_len, h1], fun x p hx => ?_, ?_, fun q hq => ?_⟩⟩
  · refine rv_def rfl rfl ?_
    unfold p_undone_row
    apply rv_seq_asg
    · refine rv_lc (show enX (fV 0) _ = some (.ok (enD 0 (r.map ent))) from rfl) (by rw [enD_len, List.length_map]; unfold big; omega) (enD_ents r 0 fun i p => rv_lcI rfl ?_)
      (repeat (first
    | ((with_reducible apply rv_fV) ; rfl)
    | with_reducible exact rv_fC
    | with_reducible apply rv_b2
    | with_reducible apply rv_b1
    | with_reducible apply rv_b2s
    | with_reducible exact gv_add
    | with_reducible exact Z.gv_sub
    | with_reducible exact gv_lt
    | with_reducible exact gv_le
    | with_reducible exact gv_gt
    | with_reducible exact gv_ge
    | with_reducible exact gv_eq
    | with_reducible exact gv_ne
    | with_reducible exact gv_eqSS
    | with_reducible exact gv_neSS
    | with_reducible exact gv_neg
    | with_reducible exact gv_int
    | with_reducible exact gv_lenL
    | with_reducible exact gv_lenT
    | with_reducible exact gv_tupL
    | with_reducible exact gv_tupT
    | with_reducible exact gv_lstT
    | with_reducible exact gv_lstL
    | with_reducible exact gv_inRg
    | with_reducible exact gv_ninRg
    | with_reducible exact gv_L0
    | with_reducible exact gv_L1
    | with_reducible exact gv_T0
    | with_reducible exact gv_T1
    | with_reducible exact gv_T2
    | with_reducible exact gv_p12
    | with_reducible exact gv_ix0
    | with_reducible exact gv_ix1
    | with_reducible exact gv_slL
    | with_reducible exact gv_mod (by omega)
    | with_reducible exact rv_nil
    | with_reducible apply rv_cons
    | with_reducible apply rv_c1
    | with_reducible apply rv_callX
    | with_reducible apply rv_toT
    | with_reducible apply rv_not
    | with_reducible apply rv_s3
    | with_reducible exact rv_oNone
    | with_reducible apply rv_oSome
    | with_reducible apply rv_seq_asg
    | ((with_reducible apply bx_nm) ; rfl)
    | ((with_reducible apply bx_nmF) ; rfl)
    | ((with_reducible apply bx_tup) ; rfl)
    | with_reducible apply rv_seq_drop
    | with_reducible apply rv_seq_nxX
    | with_reducible apply rv_seq_seq
    | with_reducible apply rv_seq_ret
    | with_reducible apply rv_seq_app
    | with_reducible apply rv_asg
    | with_reducible apply rv_app
    | ((with_reducible apply rv_fOl) ; rfl)
    | with_reducible apply rv_ret
    | with_reducible apply rv_drop
    | ((with_reducible apply nx_is) ; rfl)
    | ((with_reducible apply slot_is) ; rfl)
    | ((with_reducible apply set_is) ; rfl)))
    · rfl
    apply rv_ret
    apply rv_callX
    · apply rv_cons
      · (repeat (first
    | ((with_reducible apply rv_fV) ; rfl)
    | with_reducible exact rv_fC
    | with_reducible apply rv_b2
    | with_reducible apply rv_b1
    | with_reducible apply rv_b2s
    | with_reducible exact gv_add
    | with_reducible exact Z.gv_sub
    | with_reducible exact gv_lt
    | with_reducible exact gv_le
    | with_reducible exact gv_gt
    | with_reducible exact gv_ge
    | with_reducible exact gv_eq
    | with_reducible exact gv_ne
    | with_reducible exact gv_eqSS
    | with_reducible exact gv_neSS
    | with_reducible exact gv_neg
    | with_reducible exact gv_int
    | with_reducible exact gv_lenL
    | with_reducible exact gv_lenT
    | with_reducible exact gv_tupL
    | with_reducible exact gv_tupT
    | with_reducible exact gv_lstT
    | with_reducible exact gv_lstL
    | with_reducible exact gv_inRg
    | with_reducible exact gv_ninRg
    | with_reducible exact gv_L0
    | with_reducible exact gv_L1
    | with_reducible exact gv_T0
    | with_reducible exact gv_T1
    | with_reducible exact gv_T2
    | with_reducible exact gv_p12
    | with_reducible exact gv_ix0
    | with_reducible exact gv_ix1
    | with_reducible exact gv_slL
    | with_reducible exact gv_mod (by omega)
    | with_reducible exact rv_nil
    | with_reducible apply rv_cons
    | with_reducible apply rv_c1
    | with_reducible apply rv_callX
    | with_reducible apply rv_toT
    | with_reducible apply rv_not
    | with_reducible apply rv_s3
    | with_reducible exact rv_oNone
    | with_reducible apply rv_oSome
    | with_reducible apply rv_seq_asg
    | ((with_reducible apply bx_nm) ; rfl)
    | ((with_reducible apply bx_nmF) ; rfl)
    | ((with_reducible apply bx_tup) ; rfl)
    | with_reducible apply rv_seq_drop
    | with_reducible apply rv_seq_nxX
    | with_reducible apply rv_seq_seq
    | with_reducible apply rv_seq_ret
    | with_reducible apply rv_seq_app
    | with_reducible apply rv_asg
    | with_reducible apply rv_app
    | ((with_reducible apply rv_fOl) ; rfl)
    | with_reducible apply rv_ret
    | with_reducible apply rv_drop
    | ((with_reducible apply nx_is) ; rfl)
    | ((with_reducible apply slot_is) ; rfl)
    | ((with_reducible apply set_is) ; rfl)))
      apply rv_cons
      · refine rv_lc (ys := (r.map fun p => p.1.toNat).map fun (p : Nat) => PyData.int (p : Int)) (rv_iA (d := rowD r) (rv_fV rfl) rfl) (by rw [List.length_map]; unfold big; omega) ?_
        rw [List.map_map]
        refine lcL_map (f := ent) fun p hp => rv_lcI rfl ?_
        have m : p.1 ∈ r.map Prod.fst := List.mem_map_of_mem hp
        have := mem_rg.mp (h2.mem_iff.mp m)
        show fV 5 _ = some (.ok (.int (p.1.toNat : Int)))
        rw [Int.toNat_of_nonneg this.1]
        rfl
      exact rv_nil
    · exact e1
  · have a := pl.at_ x ((x : Int), p.2) p.1.toNat (by rw [ents_get, hx]; simp) (by rw [List.getElem?_map, hx]; rfl)
    exact a
  · have p := (pl.perm pp).map Prod.fst
    rw [ents_fst, h1] at p
    exact p
  · have m := (pl.perm pp).mem_iff.mp hq
    obtain ⟨x, hx⟩ := List.mem_iff_getElem?.mp m
    rw [ents_get] at hx
    cases hr : r[x]? with
    | none => rw [hr] at hx; cases hx
    | some p =>
      rw [hr] at hx
      cases hx
      exact ⟨p, List.mem_iff_getElem?.mpr ⟨x, hr⟩, rfl⟩
theorem UndR.good {k n : Nat} {r r' : List (Int × Int)} (u : UndR k r r') (h : goodR k n r) : goodR k n r' := by
  obtain ⟨h1, h2, h3⟩ := goodR_parts h
  exact good_of rfl u.perm fun p hp => by
    obtain ⟨q, hq, e⟩ := u.snd p hp
    rw [← e]
    exact h3 q hq
/-- R' undoes R -/
structure Und (k : Nat) (R R' : Rows) : Prop where
  len : R'.length = R.length
  row : ∀ (s : Nat) (r : List (Int × Int)), R[s]? = some r → ∃ r', R'[s]? = some r' ∧ UndR k r r'
theorem undo_rows {k n : Nat} (hk : k ≤ 4) {item : PyData → Option (Option PyData)} (hi : ∀ r : List (Int × Int), ∀ d, F_undone_row [rowD r] = some (.ok d) → item (rowD r) = some (some d)) : ∀ (R : Rows), (∀ r ∈ R, goodR k n r) → ∃ R' : Rows, lcL item (R.map rowD) = some (R'.map rowD) ∧ Und k R R'
  | [], _ => ⟨[], rfl, rfl, fun s r h => by simp at h⟩
  | r :: R, h => by
    obtain ⟨r', e1, u⟩ := undone_row_eq (h r List.mem_cons_self) hk
    obtain ⟨R', e2, u2⟩ := undo_rows hk hi R fun q hq => h q (List.mem_cons_of_mem _ hq)
    refine ⟨r' :: R', ?_, by simp [u2.len], fun s q hs => ?_⟩
    · rw [List.map_cons, lcL, hi r _ e1]
      simp only [e2, Option.map_some]
      rfl
    · cases s with
      | zero =>
        have : r = q := by simpa using hs
        subst this
        exact ⟨r', rfl, u⟩
      | succ s =>
        obtain ⟨q', h1, h2⟩ := u2.row s q (by simpa using hs)
        exact ⟨q', by simpa using h1, h2⟩
theorem undoing_eq {k : Nat} {R : Rows} (G : Good k R) : ∃ R' : Rows, F_undoing [macD k R] = some (.ok (macD k R')) ∧ Und k R R' ∧ Good k R' := by
  have h1 := check_wide_eq (k := k) G.small
  rw [G.wide, if_pos rfl] at h1
  obtain ⟨R', e, u⟩ := undo_rows (n := R.length) (by have := G.k2; omega) (item := lcI [3] (bNm 3) fYes (callX (aCons (fV 3) aNil) F_undone_row) [some (macD k R), some (.int k), some (.tuple (R.map rowD)), none]) (fun r d hd => rv_lcI rfl (rv_callX (rv_cons (rv_fV rfl) rv_nil) hd)) R G.ok
  refine ⟨R', ?_, u, ⟨G.k2, by rw [u.len]; exact G.n2, fun r' hr' => ?_⟩⟩
  · refine rv_def rfl rfl ?_
    unfold p_undoing
    (repeat (first
    | ((with_reducible apply rv_fV) ; rfl)
    | with_reducible exact rv_fC
    | with_reducible apply rv_b2
    | with_reducible apply rv_b1
    | with_reducible apply rv_b2s
    | with_reducible exact gv_add
    | with_reducible exact Z.gv_sub
    | with_reducible exact gv_lt
    | with_reducible exact gv_le
    | with_reducible exact gv_gt
    | with_reducible exact gv_ge
    | with_reducible exact gv_eq
    | with_reducible exact gv_ne
    | with_reducible exact gv_eqSS
    | with_reducible exact gv_neSS
    | with_reducible exact gv_neg
    | with_reducible exact gv_int
    | with_reducible exact gv_lenL
    | with_reducible exact gv_lenT
    | with_reducible exact gv_tupL
    | with_reducible exact gv_tupT
    | with_reducible exact gv_lstT
    | with_reducible exact gv_lstL
    | with_reducible exact gv_inRg
    | with_reducible exact gv_ninRg
    | with_reducible exact gv_L0
    | with_reducible exact gv_L1
    | with_reducible exact gv_T0
    | with_reducible exact gv_T1
    | with_reducible exact gv_T2
    | with_reducible exact gv_p12
    | with_reducible exact gv_ix0
    | with_reducible exact gv_ix1
    | with_reducible exact gv_slL
    | with_reducible exact gv_mod (by omega)
    | with_reducible exact rv_nil
    | with_reducible apply rv_cons
    | with_reducible apply rv_c1
    | with_reducible apply rv_callX
    | with_reducible apply rv_toT
    | with_reducible apply rv_not
    | with_reducible apply rv_s3
    | with_reducible exact rv_oNone
    | with_reducible apply rv_oSome
    | with_reducible apply rv_seq_asg
    | ((with_reducible apply bx_nm) ; rfl)
    | ((with_reducible apply bx_nmF) ; rfl)
    | ((with_reducible apply bx_tup) ; rfl)
    | with_reducible apply rv_seq_drop
    | with_reducible apply rv_seq_nxX
    | with_reducible apply rv_seq_seq
    | with_reducible apply rv_seq_ret
    | with_reducible apply rv_seq_app
    | with_reducible apply rv_asg
    | with_reducible apply rv_app
    | ((with_reducible apply rv_fOl) ; rfl)
    | with_reducible apply rv_ret
    | with_reducible apply rv_drop
    | ((with_reducible apply nx_is) ; rfl)
    | ((with_reducible apply slot_is) ; rfl)
    | ((with_reducible apply set_is) ; rfl)))
    · exact h1
    (repeat (first
    | ((with_reducible apply rv_fV) ; rfl)
    | with_reducible exact rv_fC
    | with_reducible apply rv_b2
    | with_reducible apply rv_b1
    | with_reducible apply rv_b2s
    | with_reducible exact gv_add
    | with_reducible exact Z.gv_sub
    | with_reducible exact gv_lt
    | with_reducible exact gv_le
    | with_reducible exact gv_gt
    | with_reducible exact gv_ge
    | with_reducible exact gv_eq
    | with_reducible exact gv_ne
    | with_reducible exact gv_eqSS
    | with_reducible exact gv_neSS
    | with_reducible exact gv_neg
    | with_reducible exact gv_int
    | with_reducible exact gv_lenL
    | with_reducible exact gv_lenT
    | with_reducible exact gv_tupL
    | with_reducible exact gv_tupT
    | with_reducible exact gv_lstT
    | with_reducible exact gv_lstL
    | with_reducible exact gv_inRg
    | with_reducible exact gv_ninRg
    | with_reducible exact gv_L0
    | with_reducible exact gv_L1
    | with_reducible exact gv_T0
    | with_reducible exact gv_T1
    | with_reducible exact gv_T2
    | with_reducible exact gv_p12
    | with_reducible exact gv_ix0
    | with_reducible exact gv_ix1
    | with_reducible exact gv_slL
    | with_reducible exact gv_mod (by omega)
    | with_reducible exact rv_nil
    | with_reducible apply rv_cons
    | with_reducible apply rv_c1
    | with_reducible apply rv_callX
    | with_reducible apply rv_toT
    | with_reducible apply rv_not
    | with_reducible apply rv_s3
    | with_reducible exact rv_oNone
    | with_reducible apply rv_oSome
    | with_reducible apply rv_seq_asg
    | ((with_reducible apply bx_nm) ; rfl)
    | ((with_reducible apply bx_nmF) ; rfl)
    | ((with_reducible apply bx_tup) ; rfl)
    | with_reducible apply rv_seq_drop
    | with_reducible apply rv_seq_nxX
    | with_reducible apply rv_seq_seq
    | with_reducible apply rv_seq_ret
    | with_reducible apply rv_seq_app
    | with_reducible apply rv_asg
    | with_reducible apply rv_app
    | ((with_reducible apply rv_fOl) ; rfl)
    | with_reducible apply rv_ret
    | with_reducible apply rv_drop
    | ((with_reducible apply nx_is) ; rfl)
    | ((with_reducible apply slot_is) ; rfl)
    | ((with_reducible apply set_is) ; rfl)))
    · refine rv_lc (rv_iA (d := .tuple (R.map rowD)) (rv_fV rfl) rfl) (by rw [List.length_map]; have := G.n2; unfold big; omega) e
    (repeat (first
    | ((with_reducible apply rv_fV) ; rfl)
    | with_reducible exact rv_fC
    | with_reducible apply rv_b2
    | with_reducible apply rv_b1
    | with_reducible apply rv_b2s
    | with_reducible exact gv_add
    | with_reducible exact Z.gv_sub
    | with_reducible exact gv_lt
    | with_reducible exact gv_le
    | with_reducible exact gv_gt
    | with_reducible exact gv_ge
    | with_reducible exact gv_eq
    | with_reducible exact gv_ne
    | with_reducible exact gv_eqSS
    | with_reducible exact gv_neSS
    | with_reducible exact gv_neg
    | with_reducible exact gv_int
    | with_reducible exact gv_lenL
    | with_reducible exact gv_lenT
    | with_reducible exact gv_tupL
    | with_reducible exact gv_tupT
    | with_reducible exact gv_lstT
    | with_reducible exact gv_lstL
    | with_reducible exact gv_inRg
    | with_reducible exact gv_ninRg
    | with_reducible exact gv_L0
    | with_reducible exact gv_L1
    | with_reducible exact gv_T0
    | with_reducible exact gv_T1
    | with_reducible exact gv_T2
    | with_reducible exact gv_p12
    | with_reducible exact gv_ix0
    | with_reducible exact gv_ix1
    | with_reducible exact gv_slL
    | with_reducible exact gv_mod (by omega)
    | with_reducible exact rv_nil
    | with_reducible apply rv_cons
    | with_reducible apply rv_c1
    | with_reducible apply rv_callX
    | with_reducible apply rv_toT
    | with_reducible apply rv_not
    | with_reducible apply rv_s3
    | with_reducible exact rv_oNone
    | with_reducible apply rv_oSome
    | with_reducible apply rv_seq_asg
    | ((with_reducible apply bx_nm) ; rfl)
    | ((with_reducible apply bx_nmF) ; rfl)
    | ((with_reducible apply bx_tup) ; rfl)
    | with_reducible apply rv_seq_drop
    | with_reducible apply rv_seq_nxX
    | with_reducible apply rv_seq_seq
    | with_reducible apply rv_seq_ret
    | with_reducible apply rv_seq_app
    | with_reducible apply rv_asg
    | with_reducible apply rv_app
    | ((with_reducible apply rv_fOl) ; rfl)
    | with_reducible apply rv_ret
    | with_reducible apply rv_drop
    | ((with_reducible apply nx_is) ; rfl)
    | ((with_reducible apply slot_is) ; rfl)
    | ((with_reducible apply set_is) ; rfl)))
  · obtain ⟨s, hs⟩ := List.mem_iff_getElem?.mp hr'
    have lt : s < R.length := by rw [← u.len]; exact (List.getElem?_eq_some_iff.mp hs).1
    obtain ⟨q', h2, h3⟩ := u.row s R[s] (List.getElem?_eq_getElem lt)
    rw [hs] at h2
    cases h2
    rw [u.len]
    exact h3.good (G.ok _ (List.getElem_mem lt))
theorem undoing_er {k : Int} {R : Rows} (h : small R) (hw : wideB k R = false) : F_undoing [macD k R] = some (.error (.own "NotMachine")) := by
  have h1 := check_wide_eq (k := k) h
  rw [hw, if_neg Bool.false_ne_true] at h1
  apply rv_defE rfl rfl
  unfold p_undoing
  apply rv_seq_dropE
  apply rv_callXE
  (repeat (first
    | ((with_reducible apply rv_fV) ; rfl)
    | with_reducible exact rv_fC
    | with_reducible apply rv_b2
    | with_reducible apply rv_b1
    | with_reducible apply rv_b2s
    | with_reducible exact gv_add
    | with_reducible exact Z.gv_sub
    | with_reducible exact gv_lt
    | with_reducible exact gv_le
    | with_reducible exact gv_gt
    | with_reducible exact gv_ge
    | with_reducible exact gv_eq
    | with_reducible exact gv_ne
    | with_reducible exact gv_eqSS
    | with_reducible exact gv_neSS
    | with_reducible exact gv_neg
    | with_reducible exact gv_int
    | with_reducible exact gv_lenL
    | with_reducible exact gv_lenT
    | with_reducible exact gv_tupL
    | with_reducible exact gv_tupT
    | with_reducible exact gv_lstT
    | with_reducible exact gv_lstL
    | with_reducible exact gv_inRg
    | with_reducible exact gv_ninRg
    | with_reducible exact gv_L0
    | with_reducible exact gv_L1
    | with_reducible exact gv_T0
    | with_reducible exact gv_T1
    | with_reducible exact gv_T2
    | with_reducible exact gv_p12
    | with_reducible exact gv_ix0
    | with_reducible exact gv_ix1
    | with_reducible exact gv_slL
    | with_reducible exact gv_mod (by omega)
    | with_reducible exact rv_nil
    | with_reducible apply rv_cons
    | with_reducible apply rv_c1
    | with_reducible apply rv_callX
    | with_reducible apply rv_toT
    | with_reducible apply rv_not
    | with_reducible apply rv_s3
    | with_reducible exact rv_oNone
    | with_reducible apply rv_oSome
    | with_reducible apply rv_seq_asg
    | ((with_reducible apply bx_nm) ; rfl)
    | ((with_reducible apply bx_nmF) ; rfl)
    | ((with_reducible apply bx_tup) ; rfl)
    | with_reducible apply rv_seq_drop
    | with_reducible apply rv_seq_nxX
    | with_reducible apply rv_seq_seq
    | with_reducible apply rv_seq_ret
    | with_reducible apply rv_seq_app
    | with_reducible apply rv_asg
    | with_reducible apply rv_app
    | ((with_reducible apply rv_fOl) ; rfl)
    | with_reducible apply rv_ret
    | with_reducible apply rv_drop
    | ((with_reducible apply nx_is) ; rfl)
    | ((with_reducible apply slot_is) ; rfl)
    | ((with_reducible apply set_is) ; rfl)))
  exact h1
theorem Und.en {k : Nat} {R R' : Rows} (G : Good k R) (u : Und k R R') {s x : Nat} (hs : s < R.length) (hx : x < k) : en R' s (en R s x).1.toNat = ((x : Int), (en R s x).2) := by
  obtain ⟨r', h1, h2⟩ := u.row s _ (G.row hs).1
  have h3 := h2.at_ x _ (G.en hs hx).1
  show (R'.getD s []).getD (M.en R s x).1.toNat (0, 0) = _
  rw [List.getD_eq_getElem?_getD, List.getD_eq_getElem?_getD, h1]
  show (r'[(M.en R s x).1.toNat]?).getD (0, 0) = _
  rw [h3]
  rfl
/-- what a state did is taken back -/
theorem Und.rd {k : Nat} {R R' : Rows} (G : Good k R) (u : Und k R R') : ∀ (ds : List Nat) (s : Nat), s < R.length → (∀ d ∈ ds, d < k) → rd R' s (rd R s ds).1 = (ds, (rd R s ds).2)
  | [], s, _, _ => rfl
  | d :: ds, s, hs, hd => by
    have dk := hd d List.mem_cons_self
    obtain ⟨_, _, h3⟩ := G.en hs dk
    have e := u.en G hs dk
    have ih := Und.rd G u ds (M.en R s d).2.toNat (by omega) fun c hc => hd c (List.mem_cons_of_mem _ hc)
    simp only [M.rd, e, ih]
    simp
theorem Und.back {k : Nat} {R R' R'' : Rows} (G : Good k R) (u : Und k R R') (u' : Und k R' R'') (G' : Good k R') (G'' : Good k R'') : R'' = R := by
  have l1 := u.len
  have l2 := u'.len
  apply List.ext_getElem?
  intro s
  by_cases hs : s < R.length
  · obtain ⟨e1, g1⟩ := G.row hs
    obtain ⟨e2, g2⟩ := G''.row (s := s) (by omega)
    rw [e1, e2]
    congr 1
    have k1 := (goodR_parts g1).1
    have k2 := (goodR_parts g2).1
    apply List.ext_getElem?
    intro x
    by_cases hx : x < k
    · have a := G.en hs hx
      rw [a.1]
      have o1 := u.en G hs hx
      have lt : (M.en R s x).1.toNat < k := by omega
      have o2 := u'.en G' (s := s) (x := (M.en R s x).1.toNat) (by omega) lt
      rw [o1] at o2
      have e3 : (((x : Int), (M.en R s x).2).1).toNat = x := by simp
      rw [e3] at o2
      rw [(G''.en (s := s) (by omega) hx).1, o2]
      congr 1
      rw [Int.toNat_of_nonneg a.2.1.1]
    · rw [List.getElem?_eq_none (by omega), List.getElem?_eq_none (by omega)]
  · rw [List.getElem?_eq_none (by omega), List.getElem?_eq_none (by omega)]
end M

set_option Elab.async false
set_option linter.all false
set_option maxRecDepth 100000
set_option maxHeartbeats 4000000
namespace M
open PySem PySem.Spec PyProof.Rows L2 Z D

/-! ## strings of a level, their numbers -/
abbrev lvStep (k : Nat) (i m : Nat) : List PyData := (List.range m).map fun j => PyData.str (tx (sh k i j))
theorem lvStep_add (k i m : Nat) : lvStep k (i + 1) (m * k) ++ ((List.range k).map fun x => PyData.str (tx (sh k i m ++ [x]))) = lvStep k (i + 1) ((m + 1) * k) := by
  unfold lvStep
  rw [show (m + 1) * k = m * k + k by rw [Nat.add_mul, Nat.one_mul], List.range_add, List.map_append, List.map_map]
  congr 1
  refine List.map_congr_left fun x hx => ?_
  show _ = PyData.str (tx (sh k (i + 1) (m * k + x)))
  rw [sh_cons (List.mem_range.mp hx)]
theorem pow_small {k i n : Nat} (hk : k ≤ 4) (hi : i ≤ n) (hn : n ≤ 6) : k ^ i ≤ 4096 := by
  calc k ^ i ≤ 4 ^ i := Nat.pow_le_pow_left hk i
    _ ≤ 4 ^ 6 := Nat.pow_le_pow_right (by decide) (by omega)
    _ = 4096 := by decide
theorem level_eq {k n : Nat} (hk : 1 ≤ k ∧ k ≤ 4) (hn : n ≤ 6) : F__law_level [.int k, .int n] = some (.ok (.list (lvStep k n (k ^ n)))) := by
  have loop := forR_inv (b := bNm 3) (s := (seqX (asgX (c1 aNil gLstD) (bNm 4))
    (seqX (forS (iA (fV 2)) (bNm 5) (asgX (b2 (fV 4) (lcX (iR1 (fV 0)) [6] (bNm 6) fYes (b2 (fV 5) (b2 (fC (.str "0123")) (fV 6) gIx) gAdd)) gAdd) (bNm 4)))
    (asgX (fV 4) (bNm 2))))) (fun i Γ => ∃ x3 x4 x5 x6 : Option PyData, Γ = [some (.int k), some (.int n), some (.list (lvStep k i (k ^ i))), x3, x4, x5, x6]) (n := n) (Γ := [some (.int k), some (.int n), some (.list [.str ""]), none, none, none, none]) ⟨none, none, none, none, rfl⟩ ?_
  · obtain ⟨Γ', e1, x3, x4, x5, x6, rfl⟩ := loop
    refine rv_def (G := [some (.int k), some (.int n), none, none, none, none, none]) rfl rfl ?_
    unfold p__law_level
    refine rv_seq (rv_asg (rv_c1 (rv_cons rv_fC rv_nil) gv_L1) rfl) (rv_seq (rv_for (rv_iR1 (rv_fV rfl) (by unfold rgB; omega)) e1) (rv_ret (rv_fV rfl)))
  · rintro i Γ hi ⟨x3, x4, x5, x6, rfl⟩
    have hb := pow_small (k := k) (i := i + 1) (n := n) hk.2 (by omega) hn
    have inner := forX_inv (b := bNm 5) (s := (asgX (b2 (fV 4) (lcX (iR1 (fV 0)) [6] (bNm 6) fYes (b2 (fV 5) (b2 (fC (.str "0123")) (fV 6) gIx) gAdd)) gAdd) (bNm 4))) (fun m Γ => ∃ x5 : Option PyData, Γ = [some (.int k), some (.int n), some (.list (lvStep k i (k ^ i))), some (.int i), some (.list (lvStep k (i + 1) (m * k))), x5, x6])
      (lvStep k i (k ^ i)) 0 [some (.int k), some (.int n), some (.list (lvStep k i (k ^ i))), some (.int i), some (.list []), x5, x6] ⟨x5, by rw [Nat.zero_mul]; rfl⟩ ?_
    · obtain ⟨Γ', e1, x5, rfl⟩ := inner
      refine ⟨[some (.int k), some (.int n), some (.list (lvStep k i (k ^ i))), some (.int i), x4, _, x6], _, rfl, rv_seq (rv_asg (rv_c1 rv_nil gv_L0) rfl) (rv_seq (rv_for (rv_iA (rv_fV rfl) rfl) e1) (rv_asg (rv_fV rfl) rfl)), some (.int i), some (.list (lvStep k (i + 1) (k ^ (i + 1)))), x5, x6, ?_⟩
      have e : (0 + (lvStep k i (k ^ i)).length) * k = k ^ (i + 1) := by unfold lvStep; rw [List.length_map, List.length_range, Nat.zero_add, Nat.pow_succ]
      rw [e]
      rfl
    · rintro m d Γ hd ⟨x5, rfl⟩
      rw [Nat.zero_add]
      have hm : m < k ^ i := by
        have := (List.getElem?_eq_some_iff.mp hd).1
        unfold lvStep at this
        rwa [List.length_map, List.length_range] at this
      have hd2 : d = .str (tx (sh k i m)) := by
        unfold lvStep at hd
        rw [List.getElem?_map, List.getElem?_range hm] at hd
        exact (Option.some.inj hd).symm
      subst hd2
      have hmk : (m + 1) * k ≤ k ^ (i + 1) := by rw [Nat.pow_succ]; exact Nat.mul_le_mul_right k hm
      refine ⟨[some (.int k), some (.int n), some (.list (lvStep k i (k ^ i))), some (.int i), some (.list (lvStep k (i + 1) (m * k))), some (.str (tx (sh k i m))), x6], [some (.int k), some (.int n), some (.list (lvStep k i (k ^ i))), some (.int i), some (.list (lvStep k (i + 1) ((m + 1) * k))), some (.str (tx (sh k i m))), x6], rfl, ?_, some (.str (tx (sh k i m))), rfl⟩
      rw [← lvStep_add]
      refine rv_asg (rv_b2 (rv_fV rfl) (rv_lc (ds := (List.range k).map fun (x : Nat) => PyData.int (x : Int)) (ys := (List.range k).map fun x => PyData.str (tx (sh k i m ++ [x]))) ?_ ?_ ?_) (gv_addL ?_)) rfl
      · rw [← rgD_map]; exact rv_iR1 (rv_fV rfl) (by unfold rgB; omega)
      · rw [List.length_map, List.length_range]; unfold big; omega
      · refine lcL_map (f := fun (x : Nat) => PyData.int (x : Int)) (g := fun x => PyData.str (tx (sh k i m ++ [x]))) fun x hx => ?_
        have hx := List.mem_range.mp hx
        refine rv_lcI rfl (rv_b2 (rv_fV rfl) (rv_b2 rv_fC (rv_fV rfl) (gv_dig4 x (by omega))) (gv_addC ?_))
        rw [sh_len]; omega
      · unfold lvStep
        rw [List.length_map, List.length_range, List.length_map, List.length_range]
        rw [Nat.add_mul, Nat.one_mul] at hmk
        unfold big
        omega
end M

set_option Elab.async false
set_option linter.all false
set_option maxRecDepth 100000
set_option maxHeartbeats 4000000
namespace M
open PySem PySem.Spec PyProof.Rows L2 Z

/-! ## words of letters that read digits -/
def iv (t : Nat) : Nat := if t % 2 = 0 then t + 1 else t - 1
theorem iv_iv (t : Nat) : iv (iv t) = t := by
  unfold iv
  by_cases h : t % 2 = 0
  · rw [if_pos h, if_neg (by omega)]; omega
  · rw [if_neg h, if_pos (by omega)]; omega
abbrev Lf := Nat → Nat → Nat × Nat
structure Lts (k N : Nat) (f : Lf) : Prop where
  ok : ∀ t x, t < N → x < k → (f t x).1 < k ∧ (f t x).2 < N
  inv : ∀ t, t < N → iv t < N
  und : ∀ t x, t < N → x < k → f (iv t) (f t x).1 = (x, iv (f t x).2)
def rdL (f : Lf) : Nat → List Nat → List Nat
  | _, [] => []
  | t, x :: z => (f t x).1 :: rdL f (f t x).2 z
def mv (f : Lf) (w z : List Nat) : List Nat := w.foldl (fun z t => rdL f t z) z
def rdg (f : Lf) : List Nat → Nat → Nat × List Nat
  | [], x => (x, [])
  | t :: w, x => ((rdg f w (f t x).1).1, (f t x).2 :: (rdg f w (f t x).1).2)
def ctS (kept : List Nat) (t : Nat) : List Nat := if kept.getLast? = some (iv t) then kept.dropLast else kept ++ [t]
def ctL (kept w : List Nat) : List Nat := w.foldl ctS kept
abbrev ctW (w : List Nat) : List Nat := ctL [] w
abbrev vw (N : Nat) (w : List Nat) : Prop := ∀ t ∈ w, t < N
section
variable {k N : Nat} {f : Lf}
theorem vnil : vw N [] := fun _ h => nomatch h
theorem rdL_len : ∀ (z : List Nat) (t : Nat), (rdL f t z).length = z.length
  | [], _ => rfl
  | x :: z, t => by rw [rdL, List.length_cons, List.length_cons, rdL_len z]
theorem mv_len : ∀ (w z : List Nat), (mv f w z).length = z.length
  | [], _ => rfl
  | t :: w, z => by
    show (mv f w (rdL f t z)).length = _
    rw [mv_len w, rdL_len]
theorem mv_nil : ∀ w : List Nat, mv f w [] = []
  | [] => rfl
  | t :: w => mv_nil w
theorem mv_app (a b z : List Nat) : mv f (a ++ b) z = mv f b (mv f a z) := List.foldl_append ..
theorem mv_step : ∀ (w : List Nat) (x : Nat) (z : List Nat), mv f w (x :: z) = (rdg f w x).1 :: mv f (rdg f w x).2 z
  | [], _, _ => rfl
  | t :: w, x, z => by
    show mv f w ((f t x).1 :: rdL f (f t x).2 z) = _
    rw [mv_step w]
    rfl
theorem rdg_ok (L : Lts k N f) : ∀ (w : List Nat) (x : Nat), vw N w → x < k → (rdg f w x).1 < k ∧ vw N (rdg f w x).2
  | [], x, _, hx => ⟨hx, fun _ h => nomatch h⟩
  | t :: w, x, hw, hx => by
    have h1 := L.ok t x (hw t List.mem_cons_self) hx
    have h2 := rdg_ok L w (f t x).1 (fun s hs => hw s (List.mem_cons_of_mem _ hs)) h1.1
    refine ⟨h2.1, fun s hs => ?_⟩
    rcases List.mem_cons.mp hs with rfl | hs
    · exact h1.2
    · exact h2.2 s hs
theorem rdg_len : ∀ (w : List Nat) (x : Nat), (rdg f w x).2.length = w.length
  | [], _ => rfl
  | t :: w, x => by rw [rdg, List.length_cons, List.length_cons, rdg_len w]
theorem rdL_ok (L : Lts k N f) : ∀ (z : List Nat) (t : Nat), t < N → vw k z → vw k (rdL f t z)
  | [], _, _, _ => fun _ h => nomatch h
  | x :: z, t, ht, hz => by
    have h1 := L.ok t x ht (hz x List.mem_cons_self)
    intro y hy
    rcases List.mem_cons.mp hy with rfl | hy
    · exact h1.1
    · exact rdL_ok L z _ h1.2 (fun s hs => hz s (List.mem_cons_of_mem _ hs)) y hy
theorem mv_ok (L : Lts k N f) : ∀ (w z : List Nat), vw N w → vw k z → vw k (mv f w z)
  | [], _, _, hz => hz
  | t :: w, z, hw, hz => mv_ok L w _ (fun s hs => hw s (List.mem_cons_of_mem _ hs)) (rdL_ok L z t (hw t List.mem_cons_self) hz)
theorem rdL_inv (L : Lts k N f) : ∀ (z : List Nat) (t : Nat), t < N → vw k z → rdL f (iv t) (rdL f t z) = z
  | [], _, _, _ => rfl
  | x :: z, t, ht, hz => by
    have hx := hz x List.mem_cons_self
    have h1 := L.ok t x ht hx
    rw [rdL, rdL, L.und t x ht hx, rdL_inv L z _ h1.2 fun s hs => hz s (List.mem_cons_of_mem _ hs)]
theorem ctS_ok {kept : List Nat} {t : Nat} (hk : vw N kept) (ht : t < N) : vw N (ctS kept t) := by
  unfold ctS
  split
  · exact fun s hs => hk s (List.dropLast_subset _ hs)
  · intro s hs
    rcases List.mem_append.mp hs with hs | hs
    · exact hk s hs
    · rw [List.mem_singleton.mp hs]; exact ht
theorem ctL_ok : ∀ (w kept : List Nat), vw N kept → vw N w → vw N (ctL kept w)
  | [], _, hk, _ => hk
  | t :: w, kept, hk, hw => ctL_ok w _ (ctS_ok hk (hw t List.mem_cons_self)) fun s hs => hw s (List.mem_cons_of_mem _ hs)
theorem ctS_len (kept : List Nat) (t : Nat) : (ctS kept t).length ≤ kept.length + 1 := by
  unfold ctS
  split
  · rw [List.length_dropLast]; omega
  · rw [List.length_append]; simp
theorem ctL_len : ∀ (w kept : List Nat), (ctL kept w).length ≤ kept.length + w.length
  | [], _ => Nat.le_refl _
  | t :: w, kept => by
    have h1 := ctL_len w (ctS kept t)
    have h2 := ctS_len kept t
    rw [List.length_cons]
    show (ctL (ctS kept t) w).length ≤ _
    omega
theorem ctS_mv (L : Lts k N f) {kept : List Nat} {t : Nat} (hk : vw N kept) (ht : t < N) {z : List Nat} (hz : vw k z) : mv f (ctS kept t) z = rdL f t (mv f kept z) := by
  unfold ctS
  by_cases h : kept.getLast? = some (iv t)
  · rw [if_pos h]
    have e : kept = kept.dropLast ++ [iv t] := by
      obtain ⟨ys, hy⟩ := List.getLast?_eq_some_iff.mp h
      rw [hy, List.dropLast_concat]
    have hd : vw N kept.dropLast := fun s hs => hk s (List.dropLast_subset _ hs)
    have e2 : mv f kept z = rdL f (iv t) (mv f kept.dropLast z) := by
      rw [e, mv_app, List.dropLast_concat]
      rfl
    rw [e2]
    have := rdL_inv L (mv f kept.dropLast z) (iv t) (L.inv t ht) (mv_ok L _ _ hd hz)
    rw [iv_iv] at this
    exact this.symm
  · rw [if_neg h, mv_app]
    rfl
theorem ctL_mv (L : Lts k N f) : ∀ (w kept : List Nat) (z : List Nat), vw N kept → vw N w → vw k z → mv f (ctL kept w) z = mv f w (mv f kept z)
  | [], _, _, _, _, _ => rfl
  | t :: w, kept, z, hk, hw, hz => by
    have ht := hw t List.mem_cons_self
    show mv f (ctL (ctS kept t) w) z = mv f w (rdL f t (mv f kept z))
    rw [ctL_mv L w _ z (ctS_ok hk ht) (fun s hs => hw s (List.mem_cons_of_mem _ hs)) hz, ctS_mv L hk ht hz]
theorem ctW_mv (L : Lts k N f) {w z : List Nat} (hw : vw N w) (hz : vw k z) : mv f (ctW w) z = mv f w z := ctL_mv L w [] z vnil hw hz
/-- the cut section behind a string -/
def scW (f : Lf) : List Nat → List Nat → List Nat
  | w, [] => w
  | w, x :: z => scW f (ctW (rdg f w x).2) z
theorem scW_app (f : Lf) : ∀ (z : List Nat) (w : List Nat) (y : List Nat), scW f w (z ++ y) = scW f (scW f w z) y
  | [], _, _ => rfl
  | x :: z, w, y => scW_app f z _ y
theorem scW_ok (L : Lts k N f) : ∀ (z w : List Nat), vw N w → vw k z → vw N (scW f w z)
  | [], _, hw, _ => hw
  | x :: z, w, hw, hz => scW_ok L z _ (ctL_ok _ _ vnil (rdg_ok L w x hw (hz x List.mem_cons_self)).2) fun s hs => hz s (List.mem_cons_of_mem _ hs)
theorem scW_len : ∀ (z w : List Nat), (scW f w z).length ≤ w.length
  | [], _ => Nat.le_refl _
  | x :: z, w => by
    have h1 := scW_len z (ctW (rdg f w x).2)
    have h2 : (ctW (rdg f w x).2).length ≤ 0 + (rdg f w x).2.length := ctL_len (rdg f w x).2 []
    rw [rdg_len] at h2
    exact Nat.le_trans h1 (by omega)
theorem mv_sc (L : Lts k N f) : ∀ (z w y : List Nat), vw N w → vw k z → vw k y → mv f w (z ++ y) = mv f w z ++ mv f (scW f w z) y
  | [], w, y, _, _, _ => by rw [mv_nil]; rfl
  | x :: z, w, y, hw, hz, hy => by
    have hx := hz x List.mem_cons_self
    have hz' : vw k z := fun s hs => hz s (List.mem_cons_of_mem _ hs)
    have hv := (rdg_ok L w x hw hx).2
    have hzy : vw k (z ++ y) := fun s hs => (List.mem_append.mp hs).elim (hz' s) (hy s)
    rw [List.cons_append, mv_step, mv_step, List.cons_append, ← ctW_mv L hv hzy, ← ctW_mv L hv hz', mv_sc L z _ y (ctL_ok _ _ vnil hv) hz' hy]
    rfl
/-! ## the portrait of a word -/
def ptW (f : Lf) (k : Nat) (w : List Nat) : Ptr := fun i j x => (rdg f (scW f w (sh k i j)) x).1
theorem perm_of_inj {k : Nat} (hk : 2 ≤ k ∧ k ≤ 4) {g : Nat → Nat} (h1 : ∀ x, x < k → g x < k) (h2 : ∀ x y, x < k → y < k → g x = g y → x = y) : ((List.range k).map g).Perm (List.range k) := by
  refine perm_of_nodup hk (by rw [List.length_map, List.length_range]) (nodup_on (fun x hx y hy e => h2 x y (List.mem_range.mp hx) (List.mem_range.mp hy) e) List.nodup_range) fun y hy => ?_
  obtain ⟨x, hx, rfl⟩ := List.mem_map.mp hy
  exact h1 x (List.mem_range.mp hx)
theorem rdg_inj (L : Lts k N f) : ∀ (w : List Nat) (x y : Nat), vw N w → x < k → y < k → (rdg f w x).1 = (rdg f w y).1 → x = y
  | [], _, _, _, _, _, e => e
  | t :: w, x, y, hw, hx, hy, e => by
    have ht := hw t List.mem_cons_self
    have h := rdg_inj L w _ _ (fun s hs => hw s (List.mem_cons_of_mem _ hs)) (L.ok t x ht hx).1 (L.ok t y ht hy).1 e
    have e1 := L.und t x ht hx
    have e2 := L.und t y ht hy
    rw [h, e2] at e1
    exact (congrArg Prod.fst e1).symm
theorem ptW_gd (L : Lts k N f) (hk : 2 ≤ k ∧ k ≤ 4) {w : List Nat} (hw : vw N w) (d : Nat) : Gd k d (ptW f k w) := ⟨fun i j _ _ => by
  have hs := scW_ok L (sh k i j) w hw (sh_lt (by omega) i j)
  exact perm_of_inj hk (fun x hx => (rdg_ok L _ x hs hx).1) fun x y hx hy e => rdg_inj L _ x y hs hx hy e⟩
theorem actL_mv (L : Lts k N f) (hk : 0 < k) {w : List Nat} (hw : vw N w) : ∀ (z : List Nat) (i j : Nat), vw k z → actL k (ptW f k w) i j z = mv f (scW f w (sh k i j)) z
  | [], _, _, _ => by rw [mv_nil]; rfl
  | x :: z, i, j, hz => by
    have hx := hz x List.mem_cons_self
    have hz' : vw k z := fun s hs => hz s (List.mem_cons_of_mem _ hs)
    have hv := (rdg_ok L _ x (scW_ok L (sh k i j) w hw (sh_lt hk i j)) hx).2
    rw [mv_step, actL, actL_mv L hk hw z (i + 1) (j * k + x) hz', sh_cons hx, scW_app, ← ctW_mv L hv hz']
    rfl
theorem act_mv (L : Lts k N f) (hk : 0 < k) {w : List Nat} (hw : vw N w) {z : List Nat} (hz : vw k z) : act k (ptW f k w) z = mv f w z := actL_mv L hk hw z 0 0 hz
/-- the last digit of an image -/
theorem mv_last (L : Lts k N f) (hk : 0 < k) {w : List Nat} (hw : vw N w) {i j x : Nat} (hx : x < k) : mv f w (sh k i j ++ [x]) = mv f w (sh k i j) ++ [ptW f k w i j x] := by
  rw [mv_sc L _ w [x] hw (sh_lt hk i j) (fun s hs => by rw [List.mem_singleton.mp hs]; exact hx), mv_step, mv_nil]
  rfl
end
end M

set_option Elab.async false
set_option linter.all false
set_option maxRecDepth 100000
set_option maxHeartbeats 4000000
namespace M
open PySem PySem.Spec PyProof.Rows L2 Z D

/-! ## letters as texts -/
def lc (t : Nat) : Nat := if t % 2 = 0 then 97 + t / 2 else 65 + t / 2
def lch (t : Nat) : Str := ⟨#[lc t]⟩
abbrev chW (t : Nat) : PyData := .str (lch t)
def wx (w : List Nat) : Str := ⟨(w.map lc).toArray⟩
theorem lc_inj {s t : Nat} (hs : s < 16) (ht : t < 16) (h : lc s = lc t) : s = t := by
  unfold lc at h
  split at h <;> split at h <;> omega
theorem lch_inj {s t : Nat} (hs : s < 16) (ht : t < 16) (h : lch s = lch t) : s = t := lc_inj hs ht (by
  have h := congrArg (fun z : Str => z.cps.toList) h
  simpa [lch] using h)
theorem wx_cps (w : List Nat) : (wx w).cps.toList = w.map lc := by simp [wx]
theorem wx_len (w : List Nat) : (wx w).length = w.length := by
  show (wx w).cps.size = _
  rw [← Array.length_toList, wx_cps, List.length_map]
theorem wx_signs (w : List Nat) : Z.signs (wx w) = w.map chW := by
  unfold Z.signs
  rw [wx_cps, List.map_map]
  rfl
theorem join_wx (w : List Nat) : Txt.join "" (w.map lch) = wx w := by
  apply str_eq
  rw [TL.join_eq, wx_cps]
  have := join_cps (w.map lc)
  rw [List.map_map] at this
  exact this
theorem gv_joinW {w : List Nat} (h : w.length ≤ big) : gJoin "" (.list (w.map chW)) = some (.str (wx w)) := by
  show (Z.strs? (w.map chW)).bind (gJoinS "") = _
  have e0 : w.map chW = (w.map lch).map PyData.str := by rw [List.map_map]; rfl
  rw [e0, Z.strs_map]
  show gJoinS "" _ = _
  unfold gJoinS
  have e : ((w.map lch).map (·.length)).sum = w.length := by
    rw [List.map_map]
    have : ((fun x : Str => x.length) ∘ lch) = fun _ => 1 := rfl
    rw [this]
    clear h this e0
    induction w with
    | nil => rfl
    | cons c cs ih => rw [List.map_cons, List.sum_cons, ih, List.length_cons]; omega
  rw [e, if_pos (by rw [List.length_map]; show w.length + w.length * 0 ≤ big; omega), join_wx]
theorem sw_all : ∀ t : Nat, t < 16 → Txt.swapcase (lch t) = lch (iv t) := by decide +kernel
theorem gv_swap {t : Nat} (h : t < 16) : gSwap (chW t) = some (chW (iv t)) := by
  show (if (lch t).length ≤ 4000000 then some (PyData.str (Txt.swapcase (lch t))) else none) = _
  rw [sw_all t h, if_pos (show (lch t).length ≤ 4000000 from (by decide : 1 ≤ 4000000))]
theorem lo_all : ∀ t : Nat, t < 16 → Txt.lower (lch t) = lch (2 * (t / 2)) := by decide +kernel
theorem gv_low {t : Nat} (h : t < 16) : gLower (chW t) = some (chW (2 * (t / 2))) := by
  show (if (lch t).length ≤ 4000000 then some (PyData.str (Txt.lower (lch t))) else none) = _
  rw [lo_all t h, if_pos (show (lch t).length ≤ 4000000 from (by decide : 1 ≤ 4000000))]
def eqSt : Option PyData → Str → Bool
  | some (.str a), b => decide (a = b)
  | _, _ => false
theorem eqSt_ok {r : Option PyData} {b : Str} (h : eqSt r b = true) : r = some (.str b) := by
  unfold eqSt at h
  split at h
  · rw [of_decide_eq_true h]
  · cases h
theorem small_all : ∀ s : Nat, s < 8 → eqSt (gIx (.str "abcdefgh") (.int (s : Int))) (lch (2 * s)) = true := by decide +kernel
theorem large_all : ∀ s : Nat, s < 8 → eqSt (gIx (.str "ABCDEFGH") (.int (s : Int))) (lch (2 * s + 1)) = true := by decide +kernel
theorem order_all : ∀ t : Nat, t < 16 → eqSt (gIx (.str "aAbBcCdDeEfFgGhH") (.int (t : Int))) (lch t) = true := by decide +kernel
/-! ## the letters of a machine -/
def lfn (R R' : Rows) : Lf := fun t x => if t % 2 = 0 then ((en R (t / 2) x).1.toNat, 2 * (en R (t / 2) x).2.toNat) else ((en R' (t / 2) x).1.toNat, 2 * (en R' (t / 2) x).2.toNat + 1)
theorem iv_even (m : Nat) : iv (2 * m) = 2 * m + 1 := by unfold iv; rw [if_pos (by omega)]
theorem iv_odd (m : Nat) : iv (2 * m + 1) = 2 * m := by unfold iv; rw [if_neg (by omega)]; omega
theorem lfn_even (R R' : Rows) (s x : Nat) : lfn R R' (2 * s) x = ((en R s x).1.toNat, 2 * (en R s x).2.toNat) := by
  unfold lfn
  rw [if_pos (by omega), show 2 * s / 2 = s by omega]
theorem lfn_odd (R R' : Rows) (s x : Nat) : lfn R R' (2 * s + 1) x = ((en R' s x).1.toNat, 2 * (en R' s x).2.toNat + 1) := by
  unfold lfn
  rw [if_neg (by omega), show (2 * s + 1) / 2 = s by omega]
theorem en_back {k : Nat} {R R' : Rows} (G : Good k R) (u : Und k R R') {s x : Nat} (hs : s < R.length) (hx : x < k) : ∃ y, y < k ∧ en R' s x = ((y : Int), (en R s y).2) ∧ (en R s y).1.toNat = x := by
  obtain ⟨y, hy, e⟩ := List.mem_map.mp ((outs_perm G hs).mem_iff.mpr (List.mem_range.mpr hx))
  have hy := List.mem_range.mp hy
  have h := Und.en G u hs hy
  rw [e] at h
  exact ⟨y, hy, h, e⟩
theorem lts_of {k : Nat} {R R' : Rows} (G : Good k R) (u : Und k R R') (G' : Good k R') : Lts k (2 * R.length) (lfn R R') where
  ok := fun t x ht hx => by
    have hs : t / 2 < R.length := by omega
    have a := (G.en hs hx).2
    have b := (G'.en (by rw [u.len]; exact hs) hx).2
    rw [u.len] at b
    unfold lfn
    split
    · exact ⟨by show (M.en R (t / 2) x).1.toNat < k; omega, by show 2 * (M.en R (t / 2) x).2.toNat < _; omega⟩
    · exact ⟨by show (M.en R' (t / 2) x).1.toNat < k; omega, by show 2 * (M.en R' (t / 2) x).2.toNat + 1 < _; omega⟩
  inv := fun t ht => by unfold iv; split <;> omega
  und := fun t x ht hx => by
    have hs : t / 2 < R.length := by omega
    rcases (by omega : t = 2 * (t / 2) ∨ t = 2 * (t / 2) + 1) with e | e
    · rw [e, lfn_even, iv_even, iv_even, lfn_odd, Und.en G u hs hx]
      rfl
    · obtain ⟨y, hy, h1, h2⟩ := en_back G u hs hx
      rw [e, lfn_odd, iv_odd, iv_odd, lfn_even, h1]
      show ((M.en R (t / 2) ((y : Int)).toNat).1.toNat, 2 * (M.en R (t / 2) ((y : Int)).toNat).2.toNat) = _
      rw [Int.toNat_natCast, h2]
/-! ## the table of steps -/
def rowL (f : Lf) (k t : Nat) : PyData := .tuple ((List.range k).map fun x => PyData.tuple [.int (((f t x).1 : Nat) : Int), chW (f t x).2])
def stK (f : Lf) (k : Nat) (L : List Nat) : Kvs := L.map fun t => (chW t, rowL f k t)
theorem kIs_ch {s t : Nat} (hs : s < 16) (ht : t < 16) : kIs (chW s) (.inr (lch t)) = decide (s = t) := by
  show decide (lch s = lch t) = decide (s = t)
  exact decide_eq_decide.mpr ⟨lch_inj hs ht, fun e => by rw [e]⟩
theorem has_st (f : Lf) (k t : Nat) (ht : t < 16) : ∀ L : List Nat, vw 16 L → dHas (.inr (lch t)) (stK f k L) = decide (t ∈ L)
  | [], _ => rfl
  | s :: L, h => by
    show (kIs (chW s) (.inr (lch t)) || dHas _ (stK f k L)) = _
    rw [has_st f k t ht L fun r hr => h r (List.mem_cons_of_mem _ hr), kIs_ch (h s List.mem_cons_self) ht, ← Bool.decide_or]
    refine decide_eq_decide.mpr ?_
    rw [List.mem_cons]
    exact or_congr_left ⟨Eq.symm, Eq.symm⟩
theorem get_st (f : Lf) (k t : Nat) (ht : t < 16) : ∀ L : List Nat, vw 16 L → t ∈ L → dGet (.inr (lch t)) (stK f k L) = some (rowL f k t)
  | [], _, h => nomatch h
  | s :: L, h, hm => by
    show (if kIs (chW s) (.inr (lch t)) = true then some (rowL f k s) else dGet _ (stK f k L)) = _
    rw [kIs_ch (h s List.mem_cons_self) ht]
    by_cases e : s = t
    · rw [if_pos (decide_eq_true e), e]
    · rw [if_neg (by simpa using e)]
      exact get_st f k t ht L (fun r hr => h r (List.mem_cons_of_mem _ hr)) ((List.mem_cons.mp hm).resolve_left fun e2 => e e2.symm)
theorem put_st (f : Lf) (k t : Nat) (ht : t < 16) {L : List Nat} (h : vw 16 L) (hn : t ∉ L) : dPut (.inr (lch t)) (rowL f k t) (stK f k L) = stK f k (L ++ [t]) := by
  unfold dPut
  rw [has_st f k t ht L h, if_neg (by simpa using hn), stK, stK, List.map_append]
  rfl
theorem keys_st (f : Lf) (k : Nat) : ∀ L : List Nat, ((stK f k L).all fun p => isKey p.1) = true
  | [] => rfl
  | s :: L => keys_st f k L
theorem gv_get {f : Lf} {k t : Nat} {L : List Nat} (ht : t < 16) (h : vw 16 L) (hm : t ∈ L) : gDGet (.dict (stK f k L)) (chW t) = some (rowL f k t) := get_st f k t ht L h hm
/-- d[letter] = row -/
theorem rv_dput {Γ Γ' : Ga} {i : Nat} {fi g : PX} {f : Lf} {k t : Nat} {L : List Nat} (h1 : g Γ = some (.ok (rowL f k t))) (h0 : Γ[i]? = some (some (.dict (stK f k L)))) (h2 : fi Γ = some (.ok (chW t))) (ht : t < 16) (h : vw 16 L) (hn : t ∉ L) (hl : L.length ≤ 16)
    (h4 : Γ.set i (some (.dict (stK f k (L ++ [t])))) = Γ') : dputX i fi g Γ = some (.nx Γ') := by
  unfold dputX
  rw [h1]
  simp only [h0, h2]
  show (if (stK f k L).length < big ∧ ((stK f k L).all fun p => isKey p.1) = true then some (Oc.nx (Γ.set i (some (.dict (dPut (.inr (lch t)) (rowL f k t) (stK f k L)))))) else none) = _
  rw [if_pos ⟨by unfold stK; rw [List.length_map]; unfold big; omega, keys_st f k L⟩, put_st f k t ht h hn, h4]
end M

set_option Elab.async false
set_option linter.all false
set_option maxRecDepth 100000
set_option maxHeartbeats 4000000
namespace M
open PySem PySem.Spec PyProof.Rows L2 Z D

/-- a row of the table, made from a row of the machine -/
theorem row_made {k n : Nat} {r : List (Int × Int)} {letters : Str} {par : Nat → Nat} (h : goodR k n r) (hk : k ≤ 4) (hn : n ≤ 8) (hp : ∀ s : Nat, s < 8 → gIx (.str letters) (.int (s : Int)) = some (chW (par s))) (x0 x1 x2 x4 x6 x7 : Option PyData) :
    b1 (lcX (iA (fV 5)) [6, 7] (bTup 2 (bCons (bNm 6) (bCons (bNm 7) bNil))) fYes (c1 (aCons (fV 6) (aCons (b2 (fV 3) (fV 7) gIx) aNil)) gTupD)) gTupO [x0, x1, x2, some (.str letters), x4, some (rowD r), x6, x7] =
      some (.ok (.tuple ((List.range k).map fun x => PyData.tuple [.int (((r.getD x (0, 0)).1.toNat : Nat) : Int), chW (par (r.getD x (0, 0)).2.toNat)]))) := by
  obtain ⟨h1, h2, h3⟩ := goodR_parts h
  have e0 : ∀ x, x < k → 0 ≤ (r.getD x (0, 0)).1 ∧ 0 ≤ (r.getD x (0, 0)).2 ∧ (r.getD x (0, 0)).2 < n := fun x hx => by
    have hm : r[x]? = some (r[x]'(by omega)) := List.getElem?_eq_getElem (by omega)
    have e : r.getD x (0, 0) = r[x]'(by omega) := by rw [List.getD_eq_getElem?_getD, hm]; rfl
    rw [e]
    have q := List.getElem_mem (h := show x < r.length by omega)
    have q1 := h3 _ q
    have q2 := mem_rg.mp (h2.mem_iff.mp (List.mem_map.mpr ⟨_, q, rfl⟩))
    exact ⟨q2.1, q1.1, q1.2⟩
  have e1 : r = (List.range k).map fun x => r.getD x (0, 0) := by
    refine List.ext_getElem (by rw [List.length_map, List.length_range, h1]) fun i a b => ?_
    rw [List.getElem_map, List.getElem_range, List.getD_eq_getElem?_getD, List.getElem?_eq_getElem a]
    rfl
  have e2 : rowD r = .tuple ((List.range k).map fun x => ent (r.getD x (0, 0))) := by
    show PyData.tuple (r.map ent) = _
    conv => lhs; rw [e1]
    rw [List.map_map]
    rfl
  refine rv_b1 (rv_lc (ds := (List.range k).map fun x => ent (r.getD x (0, 0))) (rv_iA (rv_fV rfl) (by rw [e2]; rfl)) (by rw [List.length_map, List.length_range]; unfold big; omega) (lcL_map (f := fun x => ent (r.getD x (0, 0))) (g := fun x => PyData.tuple [.int (((r.getD x (0, 0)).1.toNat : Nat) : Int), chW (par (r.getD x (0, 0)).2.toNat)]) fun x hx => ?_)) gv_tupL
  obtain ⟨a, b, c⟩ := e0 x (List.mem_range.mp hx)
  have q := hp (r.getD x (0, 0)).2.toNat (by omega)
  rw [Int.toNat_of_nonneg b] at q
  rw [Int.toNat_of_nonneg a]
  exact rv_lcI rfl (rv_c1 (rv_cons (rv_fV rfl) (rv_cons (rv_b2 (rv_fV rfl) (rv_fV rfl) q) rv_nil)) gv_T2)
/-- the letters of one kind -/
theorem half_loop {k : Nat} {R : Rows} {letters : Str} {par : Nat → Nat} {f : Lf} (G : Good k R) (hn : R.length ≤ 8) (hp : ∀ s : Nat, s < 8 → gIx (.str letters) (.int (s : Int)) = some (chW (par s))) (hpi : ∀ s t, s < 8 → t < 8 → par s = par t → s = t) (hp16 : ∀ s, s < 8 → par s < 16)
    (hf : ∀ s x, s < R.length → x < k → f (par s) x = ((en R s x).1.toNat, par (en R s x).2.toNat)) (L : List Nat) (hL : vw 16 L) (hLn : L.length ≤ 8) (hd : ∀ s, s < 8 → par s ∉ L) (x0 x2 x4 x5 x6 x7 : Option PyData) :
    ∃ y4 y5, forX (bTup 2 (bCons (bNm 4) (bCons (bNm 5) bNil))) (dputX 1 (fV 4) (b1 (lcX (iA (fV 5)) [6, 7] (bTup 2 (bCons (bNm 6) (bCons (bNm 7) bNil))) fYes (c1 (aCons (fV 6) (aCons (b2 (fV 3) (fV 7) gIx) aNil)) gTupD)) gTupO))
      ((List.range R.length).map fun s => pairD (chW (par s)) (rowD (R.getD s []))) [x0, some (.dict (stK f k L)), x2, some (.str letters), x4, x5, x6, x7] =
        some (.nx [x0, some (.dict (stK f k (L ++ (List.range R.length).map par))), x2, some (.str letters), y4, y5, x6, x7]) := by
  have loop := forX_inv (b := bTup 2 (bCons (bNm 4) (bCons (bNm 5) bNil))) (s := dputX 1 (fV 4) (b1 (lcX (iA (fV 5)) [6, 7] (bTup 2 (bCons (bNm 6) (bCons (bNm 7) bNil))) fYes (c1 (aCons (fV 6) (aCons (b2 (fV 3) (fV 7) gIx) aNil)) gTupD)) gTupO))
    (fun i Γ => ∃ y4 y5, Γ = [x0, some (.dict (stK f k (L ++ (List.range i).map par))), x2, some (.str letters), y4, y5, x6, x7]) ((List.range R.length).map fun s => pairD (chW (par s)) (rowD (R.getD s []))) 0 [x0, some (.dict (stK f k L)), x2, some (.str letters), x4, x5, x6, x7] ⟨x4, x5, by simp⟩ ?_
  · obtain ⟨Γ', e, y4, y5, rfl⟩ := loop
    rw [List.length_map, List.length_range, Nat.zero_add] at e
    exact ⟨y4, y5, e⟩
  · rintro i d Γ hi ⟨y4, y5, rfl⟩
    have hlt : i < R.length := by
      have := (List.getElem?_eq_some_iff.mp hi).1
      rwa [List.length_map, List.length_range] at this
    rw [List.getElem?_map, List.getElem?_range hlt] at hi
    cases hi
    rw [Nat.zero_add]
    have hg := (G.row hlt).2
    have hr := row_made (k := k) (n := R.length) (r := R.getD i []) (letters := letters) (par := par) hg G.k2.2 hn hp x0 (some (.dict (stK f k (L ++ (List.range i).map par)))) x2 (some (chW (par i))) x6 x7
    have e : (PyData.tuple ((List.range k).map fun x => PyData.tuple [.int ((((R.getD i []).getD x (0, 0)).1.toNat : Nat) : Int), chW (par ((R.getD i []).getD x (0, 0)).2.toNat)])) = rowL f k (par i) := by
      unfold rowL
      refine congrArg PyData.tuple (List.map_congr_left fun x hx => ?_)
      rw [hf i x hlt (List.mem_range.mp hx)]
      rfl
    rw [e] at hr
    refine ⟨_, _, rfl, rv_dput hr rfl (rv_fV rfl) (hp16 i (by omega)) ?_ ?_ ?_ rfl, some (chW (par i)), some (rowD (R.getD i [])), ?_⟩
    · intro t ht
      rcases List.mem_append.mp ht with h | h
      · exact hL t h
      · obtain ⟨s, hs, rfl⟩ := List.mem_map.mp h
        have := List.mem_range.mp hs
        exact hp16 s (by omega)
    · intro ht
      rcases List.mem_append.mp ht with h | h
      · exact hd i (by omega) h
      · obtain ⟨s, hs, e2⟩ := List.mem_map.mp h
        have := List.mem_range.mp hs
        have := hpi s i (by omega) (by omega) e2
        omega
    · rw [List.length_append, List.length_map, List.length_range]; omega
    · rw [List.range_succ, List.map_append, List.append_assoc]
      rfl
def lts (n : Nat) : List Nat := (List.range n).map (2 * ·) ++ (List.range n).map (2 * · + 1)
theorem mem_lts {n t : Nat} (h : t < 2 * n) : t ∈ lts n := by
  unfold lts
  rcases (by omega : t = 2 * (t / 2) ∨ t = 2 * (t / 2) + 1) with e | e
  · exact List.mem_append.mpr (.inl (List.mem_map.mpr ⟨t / 2, List.mem_range.mpr (by omega), e.symm⟩))
  · exact List.mem_append.mpr (.inr (List.mem_map.mpr ⟨t / 2, List.mem_range.mpr (by omega), e.symm⟩))
theorem lts_lt {n : Nat} (hn : n ≤ 8) : vw 16 (lts n) := fun t ht => by
  rcases List.mem_append.mp ht with h | h
  · obtain ⟨s, hs, rfl⟩ := List.mem_map.mp h
    have := List.mem_range.mp hs
    show 2 * s < 16
    omega
  · obtain ⟨s, hs, rfl⟩ := List.mem_map.mp h
    have := List.mem_range.mp hs
    show 2 * s + 1 < 16
    omega
abbrev stD (R R' : Rows) (k : Nat) : PyData := .dict (stK (lfn R R') k (lts R.length))
theorem zip_letters {R : Rows} {letters : Str} {par : Nat → Nat} (hn : R.length ≤ 8) (hs : sgD letters = (List.range 8).map fun s => chW (par s)) : gZip2 (.str letters) (.tuple (R.map rowD)) = some (.list ((List.range R.length).map fun s => pairD (chW (par s)) (rowD (R.getD s [])))) := by
  show some (PyData.list (List.zipWith pairD (sgD letters) (R.map rowD))) = _
  rw [hs]
  refine congrArg (fun l => some (PyData.list l)) (List.ext_getElem (by simp; omega) fun i a b => ?_)
  have hi : i < R.length := by simpa using b
  rw [List.getElem_zipWith, List.getElem_map, List.getElem_map, List.getElem_map, List.getElem_range, List.getElem_range, List.getD_eq_getElem?_getD, List.getElem?_eq_getElem hi]
  rfl
theorem steps_eq {k : Nat} {R R' : Rows} (G : Good k R) (u : Und k R R') (G' : Good k R') (hn : R.length ≤ 8) (hu : F_undoing [macD k R] = some (.ok (macD k R'))) : F_steps_of [macD k R] = some (.ok (stD R R' k)) := by
  obtain ⟨a4, a5, e1⟩ := half_loop (k := k) (R := R) (letters := "abcdefgh") (par := (2 * ·)) (f := lfn R R') G hn (fun s hs => eqSt_ok (small_all s hs)) (fun s t _ _ e => by have e : 2 * s = 2 * t := e; omega) (fun s hs => by show 2 * s < 16; omega) (fun s x _ _ => lfn_even R R' s x) [] (fun _ h => nomatch h) (by decide) (fun s hs h => nomatch h) (some (macD k R)) (some (macD k R)) none none none none
  have hn' : R'.length ≤ 8 := by rw [u.len]; exact hn
  obtain ⟨b4, b5, e2⟩ := half_loop (k := k) (R := R') (letters := "ABCDEFGH") (par := (2 * · + 1)) (f := lfn R R') G' hn' (fun s hs => eqSt_ok (large_all s hs)) (fun s t _ _ e => by have e : 2 * s + 1 = 2 * t + 1 := e; omega) (fun s hs => by show 2 * s + 1 < 16; omega) (fun s x _ _ => lfn_odd R R' s x) ((List.range R.length).map (2 * ·)) (fun t h => by
      obtain ⟨s, hs, rfl⟩ := List.mem_map.mp h
      have := List.mem_range.mp hs
      show 2 * s < 16
      omega) (by rw [List.length_map, List.length_range]; exact hn) (fun s hs h => by
      obtain ⟨s', hs', e⟩ := List.mem_map.mp h
      have e : 2 * s' = 2 * s + 1 := e
      omega) (some (macD k R)) (some (macD k R')) a4 a5 none none
  have z1 := zip_letters (R := R) (letters := "abcdefgh") (par := (2 * ·)) hn rfl
  have z2 := zip_letters (R := R') (letters := "ABCDEFGH") (par := (2 * · + 1)) hn' rfl
  rw [u.len] at e2
  rw [show [] ++ (List.range R.length).map (2 * ·) = (List.range R.length).map (2 * ·) from rfl] at e1
  rw [u.len] at z2
  refine rv_def (G := [some (macD k R), none, none, none, none, none, none, none]) rfl rfl ?_
  unfold p_steps_of
  refine rv_seq_asg (d := .dict []) rv_fC rfl ?_
  refine rv_seq_for (rv_iA (d := .tuple [.tuple [macD k R, .str "abcdefgh"], .tuple [macD k R', .str "ABCDEFGH"]]) (rv_c1 (rv_cons (rv_c1 (rv_cons (rv_fV rfl) (rv_cons rv_fC rv_nil)) gv_T2) (rv_cons (rv_c1 (rv_cons (rv_callX (rv_cons (rv_fV rfl) rv_nil) hu) (rv_cons rv_fC rv_nil)) gv_T2) rv_nil)) gv_T2) rfl) (forX_cons rfl (rv_for (rv_toI (rv_b2 (rv_fV rfl) (rv_b2 (rv_fV rfl) rv_fC gv_ix1) z1)) e1) (forX_cons rfl (rv_for (rv_toI (rv_b2 (rv_fV rfl) (rv_b2 (rv_fV rfl) rv_fC gv_ix1) z2)) e2) forX_nil)) (rv_ret (rv_fV rfl))
end M

set_option Elab.async false
set_option linter.all false
set_option maxRecDepth 100000
set_option maxHeartbeats 4000000
namespace M
open PySem PySem.Spec PyProof.Rows L2 Z D

/-- the table knows all letters -/
structure Tb (k N : Nat) (f : Lf) (L : List Nat) : Prop where
  lts : Lts k N f
  k2 : 2 ≤ k ∧ k ≤ 4
  n16 : N ≤ 16
  n1 : 0 < N
  l16 : vw 16 L
  all : ∀ t, t < N → t ∈ L
section
variable {k N : Nat} {f : Lf} {L : List Nat}
theorem Tb.get (T : Tb k N f L) {t : Nat} (ht : t < N) : gDGet (.dict (stK f k L)) (chW t) = some (rowL f k t) := gv_get (Nat.lt_of_lt_of_le ht T.n16) T.l16 (T.all t ht)
theorem gv_rowL {t x : Nat} (hx : x < k) : gIx (rowL f k t) (.int (x : Int)) = some (.tuple [.int (((f t x).1 : Nat) : Int), chW (f t x).2]) := gv_ixTN rfl (by rw [List.getElem?_map, List.getElem?_range hx]; rfl)
end
end M

set_option Elab.async false
set_option linter.all false
set_option maxRecDepth 100000
set_option maxHeartbeats 4000000
namespace M
open PySem PySem.Spec PyProof.Rows L2 Z D
theorem wrong_bad {k : Nat} (hk : 2 ≤ k) (W : Rows) : wideB k (W ++ [List.replicate k (0, 0)]) = false := by
  have h : ∀ n : Int, rowOk k n (List.replicate k (0, 0)) = false := fun n => by
    unfold rowOk
    rw [Bool.and_eq_false_iff]
    left
    apply decide_eq_false
    intro e
    have p := perm_of_isort (o := (List.replicate k ((0 : Int), (0 : Int))).map Prod.fst) (k := k) (by simpa using e)
    have m : (1 : Int) ∈ rg k := mem_rg.mpr (by omega)
    have := p.mem_iff.mpr m
    simp at this
  unfold wideB
  rw [Bool.and_eq_false_iff]
  right
  simp only [List.all_append, List.all_cons, List.all_nil, h, Bool.and_false, Bool.false_and]
theorem small_app {k : Nat} (hk : k ≤ 4) {W : Rows} (h : small W) : small (W ++ [List.replicate k (0, 0)]) := fun r hr => by
  rcases List.mem_append.mp hr with q | q
  · exact h r q
  · rw [List.mem_singleton.mp q]; simp; omega
theorem rv_orF {Γ : Ga} {c c' : PTx} (h1 : c Γ = some (.ok false)) (h2 : c' Γ = some (.ok false)) : orT c c' Γ = some (.ok false) := rv_or (b := false) h1 fun _ => h2
/-! ## words of a machine -/
theorem is_machine_eq {k : Int} {R : Rows} (h : small R) : F_is_machine [macD k R] = some (.ok (.bool (wideB k R && decide (R.length ≤ 8)))) := by
  refine rv_def (G := [some (macD k R)]) rfl rfl ?_
  unfold p_is_machine
  refine rv_ret (rv_isX (rv_andX (b' := decide ((R.length : Int) ≤ 8)) (rv_callX (rv_cons (rv_fV rfl) rv_nil) (is_wide_eq k R h)) fun _ => rv_b2 (rv_b1 (rv_b2 (rv_fV rfl) rv_fC gv_ix1) ?_) rv_fC gv_le) ?_)
  · rw [gv_lenT, List.length_map]
  · congr 2
    exact decide_eq_decide.mpr (by omega)
theorem check_machine_ok {k : Nat} {R : Rows} (G : Good k R) (hn : R.length ≤ 8) : F_check_machine [macD k R] = some (.ok .none) := by
  have h := is_machine_eq (k := k) G.small
  rw [G.wide, decide_eq_true hn] at h
  refine rv_defN (G := [some (macD k R)]) rfl rfl (Γ' := [some (macD k R)]) ?_
  unfold p_check_machine
  exact rv_ifF (rv_not (rv_toT (rv_callX (rv_cons (rv_fV rfl) rv_nil) h))) rv_nx
theorem check_machine_no {k : Int} {R : Rows} (hs : small R) (hw : wideB k R = false) : F_check_machine [macD k R] = some (.error (.own "NotMachine")) := by
  have h := is_machine_eq (k := k) hs
  rw [hw] at h
  refine rv_defE (G := [some (macD k R)]) rfl rfl (Γ' := [some (macD k R)]) ?_
  unfold p_check_machine
  exact rv_ifT (rv_not (rv_toT (rv_callX (rv_cons (rv_fV rfl) rv_nil) h))) (rv_ra rv_fC)
theorem order_cut : ∀ n : Nat, n ≤ 8 → eqSt (gSl (.str "aAbBcCdDeEfFgGhH") none (some ((2 * n : Nat) : Int))) (wx (List.range (2 * n))) = true := by decide +kernel
theorem letters_of_eq {k : Int} {R : Rows} (hn : R.length ≤ 8) : F_letters_of [macD k R] = some (.ok (.str (wx (List.range (2 * R.length))))) := by
  refine rv_def (G := [some (macD k R)]) rfl rfl ?_
  unfold p_letters_of
  refine rv_ret (rv_s3 rv_fC rv_oNone (rv_oSome (k := ((2 * R.length : Nat) : Int)) (rv_isX (rv_b2 rv_fC (rv_b1 (rv_b2 (rv_fV rfl) rv_fC gv_ix1) gv_lenT) (gv_mulR (by rw [List.length_map]; omega) (by rw [List.length_map]; omega))) ?_)) (eqSt_ok (order_cut R.length hn)))
  rw [List.length_map, Int.natCast_mul]
  rfl
theorem has_letters_eq {k : Int} {R : Rows} (hn : R.length ≤ 8) (z : Str) : F_has_letters [macD k R, .str z] = some (.ok (.bool (z.cps.toList.all fun c => decide (c ∈ (List.range (2 * R.length)).map lc)))) := by
  refine rv_def (G := [some (macD k R), some (.str z), none, none]) rfl rfl ?_
  unfold p_has_letters
  refine rv_seq_asg (rv_callX (rv_cons (rv_fV rfl) rv_nil) (letters_of_eq hn)) rfl (rv_ret (rv_al (rv_iA (rv_fV rfl) rfl) (alL_map (f := fun c => PyData.str ⟨#[c]⟩) (g := fun c => decide (c ∈ (List.range (2 * R.length)).map lc)) fun c _ => rv_alI rfl (rv_b2 (rv_fV rfl) (rv_fV rfl) ?_))))
  show (some (!(Builtin.Str.occurrences (wx (List.range (2 * R.length))) ⟨#[c]⟩ 0 (wx (List.range (2 * R.length))).length 1).isEmpty)).map PyData.bool = _
  rw [StrLaws.found_one, wx_cps]
  rfl
theorem check_word_ok {k : Nat} {R : Rows} (G : Good k R) (hn : R.length ≤ 8) {w : List Nat} (hw : vw (2 * R.length) w) (hl : w.length ≤ 60) : F_check_word [macD k R, .str (wx w)] = some (.ok .none) := by
  have h := has_letters_eq (k := k) hn (wx w)
  have e : ((wx w).cps.toList.all fun c => decide (c ∈ (List.range (2 * R.length)).map lc)) = true := by
    rw [wx_cps, List.all_map, List.all_eq_true]
    exact fun t ht => decide_eq_true (List.mem_map.mpr ⟨t, List.mem_range.mpr (hw t ht), rfl⟩)
  rw [e] at h
  refine rv_defN (G := [some (macD k R), some (.str (wx w))]) rfl rfl (Γ' := [some (macD k R), some (.str (wx w))]) ?_
  unfold p_check_word
  refine rv_seq_drop (rv_callX (rv_cons (rv_fV rfl) rv_nil) (check_machine_ok G hn)) ?_
  refine rv_ifF (rv_is (y := fun _ => none) (rv_or (rv_toT (rv_b2 (rv_b1 (rv_fV rfl) (gv_lenS (by rw [wx_len]; unfold big; omega))) rv_fC gv_gt)) fun _ => rv_not (rv_toT (rv_callX (rv_cons (rv_fV rfl) (rv_cons (rv_fV rfl) rv_nil)) h))) ?_) rv_nx
  rw [wx_len, decide_eq_false (by omega)]
  rfl
theorem check_word_z {k : Nat} {R : Rows} (G : Good k R) (hn : R.length ≤ 8) : F_check_word [macD k R, .str "z"] = some (.error (.own "NotWord")) := by
  have h := has_letters_eq (k := k) hn "z"
  have e : (("z" : Str).cps.toList.all fun c => decide (c ∈ (List.range (2 * R.length)).map lc)) = false := by
    have e0 : ("z" : Str).cps.toList = [122] := by rfl
    rw [e0, List.all_cons, List.all_nil, Bool.and_true]
    refine decide_eq_false fun hm => ?_
    obtain ⟨t, ht, e⟩ := List.mem_map.mp hm
    have := List.mem_range.mp ht
    unfold lc at e
    split at e <;> omega
  rw [e] at h
  refine rv_defE (G := [some (macD k R), some (.str "z")]) rfl rfl (Γ' := [some (macD k R), some (.str "z")]) ?_
  unfold p_check_word
  refine rv_seq_drop (rv_callX (rv_cons (rv_fV rfl) rv_nil) (check_machine_ok G hn)) ?_
  exact rv_ifT (rv_is (y := fun _ => none) (rv_or (rv_toT (rv_b2 (rv_b1 (rv_fV rfl) (gv_lenS (by decide))) rv_fC gv_gt)) fun _ => rv_not (rv_toT (rv_callX (rv_cons (rv_fV rfl) (rv_cons (rv_fV rfl) rv_nil)) h))) rfl) (rv_ra rv_fC)
end M

set_option Elab.async false
set_option linter.all false
set_option maxRecDepth 100000
set_option maxHeartbeats 4000000
namespace M
open PySem PySem.Spec PyProof.Rows L2 Z D

/-! ## the law reads words -/
theorem law_word_eq (c : Int) (n : Nat) (m : Int) (hn : 1 ≤ n ∧ n ≤ 8) (hm : 0 ≤ m ∧ m ≤ 62) : ∃ w : List Nat, F__law_word [.int c, .int n, .int m] = some (.ok (.str (wx w))) ∧ (w.length : Int) ≤ m + 1 ∧ vw (2 * n) w := by
  obtain ⟨N, hN⟩ : ∃ N : Nat, (N : Int) = m + 1 := ⟨(m + 1).toNat, by omega⟩
  obtain ⟨vs, h1, h2, h3⟩ := values_eq c N 997 (by omega) (by omega) (by omega)
  rw [hN] at h1
  have lt : 0 < vs.length := by omega
  have hcut := cutD_len vs (some 1) (some (1 + vs[0] % (m + 1)))
  have dg : ∀ v : Int, 0 ≤ v % ((2 * n : Nat) : Int) ∧ v % ((2 * n : Nat) : Int) < 16 ∧ (v % ((2 * n : Nat) : Int)).toNat < 2 * n := fun v => by
    have := Int.emod_nonneg v (show ((2 * n : Nat) : Int) ≠ 0 by omega)
    have := Int.emod_lt_of_pos v (show (0 : Int) < (2 * n : Nat) by omega)
    omega
  refine ⟨(Z.cutD vs (some 1) (some (1 + vs[0] % (m + 1)))).map fun (v : Int) => (v % ((2 * n : Nat) : Int)).toNat, ?_, by rw [List.length_map]; omega, fun d hd => ?_⟩
  · refine rv_def (G := [some (.int c), some (.int n), some (.int m), none, none, none]) rfl rfl ?_
    unfold p__law_word
    refine rv_seq_asg (rv_callX (rv_cons (rv_fV rfl) (rv_cons (rv_b2 (rv_fV rfl) rv_fC gv_add) (rv_cons rv_fC rv_nil))) h1) rfl ?_
    refine rv_seq_asg (d := .str (wx (List.range (2 * n)))) (rv_s3 rv_fC rv_oNone (rv_oSome (k := ((2 * n : Nat) : Int)) (rv_isX (rv_b2 rv_fC (rv_fV rfl) (gv_mulR (by omega) (by omega))) (by rw [Int.natCast_mul]; rfl))) (eqSt_ok (order_cut n hn.2))) rfl ?_
    have hi0 : gIx (.list (vs.map .int)) (.int 0) = some (.int vs[0]) := gv_ixL (d := .int vs[0]) (by omega) (by simp [lt])
    refine rv_ret (rv_b2s rv_fC (rv_lc (ds := (Z.cutD vs (some 1) (some (1 + vs[0] % (m + 1)))).map .int) (ys := ((Z.cutD vs (some 1) (some (1 + vs[0] % (m + 1)))).map fun (v : Int) => (v % ((2 * n : Nat) : Int)).toNat).map chW) (rv_iA (d := .list ((Z.cutD vs (some 1) (some (1 + vs[0] % (m + 1)))).map .int)) (rv_s3 (rv_fV rfl) (rv_oSome rv_fC) (rv_oSome (rv_b2 rv_fC (rv_b2 (rv_b2 (rv_fV rfl) rv_fC hi0) (rv_b2 (rv_fV rfl) rv_fC gv_add) (gv_mod (by omega))) gv_add)) (by rw [← cutD_map]; exact gv_slL)) rfl) (by rw [List.length_map]; unfold big; omega) ?_) (gv_joinW (by rw [List.length_map]; unfold big; omega)))
    rw [List.map_map]
    refine lcL_map (f := PyData.int) fun v _ => rv_lcI rfl ?_
    have hx : gIx (.str (wx (List.range (2 * n)))) (.int (v % ((2 * n : Nat) : Int))) = some (chW (v % ((2 * n : Nat) : Int)).toNat) := by
      refine gv_ixS (by rw [wx_len, List.length_range]; unfold big; omega) (dg v).1 ?_
      rw [wx_cps, List.getElem?_map, List.getElem?_range (dg v).2.2]
      rfl
    have hlen : gLen (.str (wx (List.range (2 * n)))) = some (.int ((2 * n : Nat) : Int)) := by
      rw [gv_lenS (by rw [wx_len, List.length_range]; unfold big; omega), wx_len, List.length_range]
    exact rv_b2 (rv_fV rfl) (rv_b2 (rv_fV rfl) (rv_b1 (rv_fV rfl) hlen) (gv_mod (by omega))) hx
  · obtain ⟨v, _, rfl⟩ := List.mem_map.mp hd
    exact (dg v).2.2
def eqO : Option PyData → Nat → Bool
  | some d, n => (match d with | .int i => decide (i = (n : Int)) | _ => false)
  | none, _ => false
theorem eqO_ok {r : Option PyData} {n : Nat} (h : eqO r n = true) : r = some (.int n) := by
  unfold eqO at h
  split at h
  · split at h
    · rw [of_decide_eq_true h]
    · cases h
  · cases h
theorem state_all : ∀ s : Nat, s < 8 → eqO (gIndex (.str "abcdefgh") (chW (2 * s))) s = true := by decide +kernel
theorem small_in : ∀ t : Nat, t < 16 → (gInS (chW t) (.str "abcdefgh") = some (.bool (decide (t % 2 = 0)))) := fun t ht => by
  show some (PyData.bool (decide (lc t ∈ ("abcdefgh" : Str).cps.toList))) = _
  have e : ∀ t : Nat, t < 16 → decide (lc t ∈ ("abcdefgh" : Str).cps.toList) = decide (t % 2 = 0) := by decide +kernel
  rw [e t ht]
/-- a digit's place among those that a row writes -/
theorem out_place {k n : Nat} {r : List (Int × Int)} (h : goodR k n r) (hk : k ≤ 4) {y : Nat} (hy : y < k) : gIndex (.list (r.map fun p => PyData.int p.1)) (.int (r.getD y (0, 0)).1) = some (.int (y : Int)) := by
  obtain ⟨h1, h2, h3⟩ := goodR_parts h
  have hn : (r.map Prod.fst).Nodup := by
    refine h2.symm.nodup ?_
    unfold rg
    exact List.pairwise_map.mpr (List.Pairwise.imp (fun {a b} hlt e => by omega) (List.pairwise_lt_range (n := k)))
  have hyl : y < r.length := by omega
  have e : (r.getD y (0, 0)).1 = (r.map Prod.fst)[y]'(by rw [List.length_map]; omega) := by
    rw [List.getElem_map, List.getD_eq_getElem?_getD, List.getElem?_eq_getElem hyl]
    rfl
  have hf : firstD (.int (r.getD y (0, 0)).1) (r.map fun p => PyData.int p.1) = some y := by
    unfold firstD
    rw [List.findIdx?_eq_some_iff_getElem]
    refine ⟨by rw [List.length_map]; exact hyl, ?_, fun j hj => ?_⟩
    · rw [List.getElem_map, e, List.getElem_map]
      simp [PyData.eqv]
    · rw [List.getElem_map, e]
      have hne : (r.map Prod.fst)[j]'(by rw [List.length_map]; omega) ≠ (r.map Prod.fst)[y]'(by rw [List.length_map]; omega) := fun q => by
        have := (List.nodup_iff_pairwise_ne.mp hn)
        exact (List.pairwise_iff_getElem.mp this) j y (by rw [List.length_map]; omega) (by rw [List.length_map]; omega) hj q
      rw [List.getElem_map] at hne
      simpa [PyData.eqv] using hne
  have s1 : SeqAt.shaped (.list (r.map fun p => PyData.int p.1)) = true := shaped_of (by
    have : PyData.canLayAll0 (r.map fun p => PyData.int p.1) = true := lay_map (f := fun p : Int × Int => PyData.int p.1) (fun _ => rfl) r
    simpa [PyData.canLay0] using this) (by
    have : PyData.depthAll (r.map fun p => PyData.int p.1) ≤ 5 := depth_map (f := fun p : Int × Int => PyData.int p.1) (c := 5) (fun _ => by simp [PyData.depth]) r
    simp only [PyData.depth]
    omega)
  have s2 : ∀ i : Int, SeqAt.shaped (.int i) = true := fun i => shaped_of rfl (by simp [PyData.depth])
  unfold gIndex
  simp only [s1, s2, Bool.and_self, if_true, hf, Option.map_some]
abbrev mvIn : SX := (seqX (asgX (b2 (b2 (fV 0) (fC (.int 1)) gIx) (fV 4) gIx) (bNm 7))
  (seqX (ifS (toT (b2 (fV 3) (fC (.str "abcdefgh")) gInS)) (asgX (b2 (fV 7) (b1 (fV 6) gInt) gIx) (bTup 2 (bCons (bNm 9) (bCons (bNm 4) bNil)))) (seqX (asgX (lcX (iA (fV 7)) [10] (bNm 10) fYes (b2 (fV 10) (fC (.int 0)) gIx)) (bNm 8))
  (seqX (asgX (b2 (fI (fV 8)) (b1 (fV 6) gInt) gIndex) (bNm 9))
  (asgX (b2 (b2 (fV 7) (fV 9) gIx) (fC (.int 1)) gIx) (bNm 4)))))
  (asgX (b2 (fV 5) (b2 (fC (.str "0123")) (fV 9) gIx) gAdd) (bNm 5))))
section
variable {k : Nat} {R R' : Rows}
theorem mv_inner (G : Good k R) (u : Und k R R') (G' : Good k R') (hn : R.length ≤ 8) (z1 z2 : Option PyData) (t0 : Nat) (h0 : t0 < 16) : ∀ (z : List Nat) (t : Nat) (v : List Nat) (x6 x7 x8 x9 x10 : Option PyData), t < 2 * R.length → t % 2 = t0 % 2 → vw k z → v.length + z.length ≤ 1000 →
    ∃ y4 y6 y7 y8 y9 y10, forX (bNm 6) mvIn (z.map chD) [some (macD k R), z1, z2, some (chW t0), some (.int ((t / 2 : Nat) : Int)), some (.str (tx v)), x6, x7, x8, x9, x10] =
      some (.nx [some (macD k R), z1, z2, some (chW t0), y4, some (.str (tx (v ++ rdL (lfn R R') t z))), y6, y7, y8, y9, y10])
  | [], t, v, x6, x7, x8, x9, x10, _, _, _, _ => ⟨_, x6, x7, x8, x9, x10, by rw [rdL, List.append_nil]; rfl⟩
  | x :: z, t, v, x6, x7, x8, x9, x10, ht, hp, hz, hl => by
    have hk := G.k2
    have hx := hz x List.mem_cons_self
    have hs : t / 2 < R.length := by omega
    have L := lts_of G u G'
    have hok := L.ok t x ht hx
    rw [List.length_cons] at hl
    have hrow := gv_row G hs
    have hadd : gAdd (.str (tx v)) (chD (lfn R R' t x).1) = some (.str (tx (v ++ [(lfn R R' t x).1]))) := gv_addC (by omega)
    have hdig := gv_dig4 (lfn R R' t x).1 (by omega)
    have hnp : (lfn R R' t x).2 % 2 = t0 % 2 := by
      rw [← hp]
      unfold lfn
      split <;> (simp only; omega)
    by_cases he : t % 2 = 0
    · have e : lfn R R' t x = ((en R (t / 2) x).1.toNat, 2 * (en R (t / 2) x).2.toNat) := by unfold lfn; rw [if_pos he]
      obtain ⟨y4, y6, y7, y8, y9, y10, q⟩ := mv_inner G u G' hn z1 z2 t0 h0 z (lfn R R' t x).2 (v ++ [(lfn R R' t x).1]) (some (chD x)) (some (rowD (R.getD (t / 2) []))) x8 (some (.int (((lfn R R' t x).1 : Nat) : Int))) x10 hok.2 hnp (fun s hs => hz s (List.mem_cons_of_mem _ hs)) (by rw [List.length_append]; simp; omega)
      rw [List.append_assoc] at q
      refine ⟨y4, y6, y7, y8, y9, y10, ?_⟩
      rw [rdL]
      refine forX_cons rfl ?_ q
      refine rv_seq_asg (rv_b2 (rv_b2 (rv_fV rfl) rv_fC gv_ix1) (rv_fV rfl) hrow) rfl ?_
      have hin := small_in t0 h0
      rw [decide_eq_true (show t0 % 2 = 0 by omega)] at hin
      have hent := gv_ent G hs hx
      refine rv_seq (rv_ifT (rv_toT (rv_b2 (rv_fV rfl) rv_fC hin)) (rv_asg (rv_b2 (rv_fV rfl) (rv_b1 (rv_fV rfl) (gv_intC x (by omega))) hent) rfl)) ?_
      rw [show (en R (t / 2) x).1.toNat = (lfn R R' t x).1 by rw [e], show (en R (t / 2) x).2.toNat = (lfn R R' t x).2 / 2 by rw [e]; simp only; omega]
      exact rv_asg (rv_b2 (rv_fV rfl) (rv_b2 rv_fC (rv_fV rfl) hdig) hadd) rfl
    · obtain ⟨y, hy, e1, e2⟩ := en_back G u hs hx
      have e : lfn R R' t x = (y, 2 * (en R (t / 2) y).2.toNat + 1) := by unfold lfn; rw [if_neg he, e1]; rfl
      have hg := (G.row hs).2
      obtain ⟨g1, g2, g3⟩ := goodR_parts hg
      have hen : (M.en R (t / 2) y).1 = (x : Int) := by
        have := (G.en hs hy).2.1.1
        omega
      have hpl := out_place hg hk.2 hy
      have hpl : gIndex (.list ((R.getD (t / 2) []).map fun p => PyData.int p.1)) (.int (x : Int)) = some (.int (y : Int)) := by
        rw [← hen]; exact hpl
      obtain ⟨y4, y6, y7, y8, y9, y10, q⟩ := mv_inner G u G' hn z1 z2 t0 h0 z (lfn R R' t x).2 (v ++ [(lfn R R' t x).1]) (some (chD x)) (some (rowD (R.getD (t / 2) []))) (some (.list ((R.getD (t / 2) []).map fun p => PyData.int p.1))) (some (.int (((lfn R R' t x).1 : Nat) : Int))) x10 hok.2 hnp (fun s hs => hz s (List.mem_cons_of_mem _ hs)) (by rw [List.length_append]; simp; omega)
      rw [List.append_assoc] at q
      refine ⟨y4, y6, y7, y8, y9, y10, ?_⟩
      rw [rdL]
      refine forX_cons rfl ?_ q
      refine rv_seq_asg (rv_b2 (rv_b2 (rv_fV rfl) rv_fC gv_ix1) (rv_fV rfl) hrow) rfl ?_
      have hin := small_in t0 h0
      rw [decide_eq_false (show ¬ t0 % 2 = 0 by omega)] at hin
      have hent := gv_ent G hs hy
      refine rv_seq (rv_ifF (rv_toT (rv_b2 (rv_fV rfl) rv_fC hin)) (rv_seq_asg (d := .list ((R.getD (t / 2) []).map fun p => PyData.int p.1)) (rv_lc (ds := (R.getD (t / 2) []).map ent) (rv_iA (rv_fV rfl) rfl) (by rw [List.length_map, g1]; unfold big; omega) (lcL_map fun p _ => rv_lcI rfl (rv_b2 (rv_fV rfl) rv_fC gv_ix0))) rfl
        (rv_seq_asg (rv_b2 (rv_fI (rv_fV rfl) isI_L) (rv_b1 (rv_fV rfl) (gv_intC x (by omega))) hpl) rfl (rv_asg (rv_b2 (rv_b2 (rv_fV rfl) (rv_fV rfl) hent) rv_fC gv_ix1) rfl)))) ?_
      rw [show (en R (t / 2) y).2.toNat = (lfn R R' t x).2 / 2 by rw [e]; simp only; omega]
      have hyy : ((y : Nat) : Int) = (((lfn R R' t x).1 : Nat) : Int) := by rw [e]
      rw [hyy]
      exact rv_asg (rv_b2 (rv_fV rfl) (rv_b2 rv_fC (rv_fV rfl) hdig) hadd) rfl
end
end M

set_option Elab.async false
set_option linter.all false
set_option maxRecDepth 100000
set_option maxHeartbeats 4000000
namespace M
open PySem PySem.Spec PyProof.Rows L2 Z D

section
variable {k : Nat} {R R' : Rows}
abbrev mvOut : SX := (seqX (asgX (b2 (fI (fC (.str "abcdefgh"))) (b1 (fV 3) gLower) gIndex) (bNm 4))
  (seqX (asgX (fC (.str "")) (bNm 5))
  (seqX (forS (iA (fV 2)) (bNm 6) mvIn)
  (asgX (fV 5) (bNm 2)))))
theorem mv_outer (G : Good k R) (u : Und k R R') (G' : Good k R') (hn : R.length ≤ 8) (z1 : Option PyData) : ∀ (w z : List Nat) (x3 x4 x5 x6 x7 x8 x9 x10 : Option PyData), vw (2 * R.length) w → vw k z → z.length ≤ 1000 →
    ∃ y3 y4 y5 y6 y7 y8 y9 y10, forX (bNm 3) mvOut (w.map chW) [some (macD k R), z1, some (.str (tx z)), x3, x4, x5, x6, x7, x8, x9, x10] = some (.nx [some (macD k R), z1, some (.str (tx (mv (lfn R R') w z))), y3, y4, y5, y6, y7, y8, y9, y10])
  | [], z, x3, x4, x5, x6, x7, x8, x9, x10, _, _, _ => ⟨x3, x4, x5, x6, x7, x8, x9, x10, rfl⟩
  | t :: w, z, x3, x4, x5, x6, x7, x8, x9, x10, hw, hz, hl => by
    have ht := hw t List.mem_cons_self
    have h16 : t < 16 := by omega
    obtain ⟨a4, a6, a7, a8, a9, a10, e1⟩ := mv_inner G u G' hn z1 (some (.str (tx z))) t h16 z t [] x6 x7 x8 x9 x10 ht rfl hz (by simp; omega)
    obtain ⟨y3, y4, y5, y6, y7, y8, y9, y10, e2⟩ := mv_outer G u G' hn z1 w (rdL (lfn R R') t z) (some (chW t)) a4 (some (.str (tx (rdL (lfn R R') t z)))) a6 a7 a8 a9 a10 (fun s hs => hw s (List.mem_cons_of_mem _ hs)) (rdL_ok (lts_of G u G') z t ht hz) (by rw [rdL_len]; exact hl)
    refine ⟨y3, y4, y5, y6, y7, y8, y9, y10, forX_cons rfl ?_ e2⟩
    refine rv_seq_asg (rv_b2 (rv_fI rv_fC rfl) (rv_b1 (rv_fV rfl) (gv_low h16)) (eqO_ok (state_all (t / 2) (by omega)))) rfl (rv_seq_asg (d := .str (tx [])) rv_fC rfl (rv_seq_for (rv_iA (ds := z.map chD) (rv_fV rfl) ?_) e1 (rv_asg (rv_fV rfl) rfl)))
    show some (Z.signs (tx z)) = _
    rw [tx_signs]
theorem moved_eq (G : Good k R) (u : Und k R R') (G' : Good k R') (hn : R.length ≤ 8) {w z : List Nat} (hw : vw (2 * R.length) w) (hz : vw k z) (hl : z.length ≤ 1000) : F__law_moved [macD k R, .str (wx w), .str (tx z)] = some (.ok (.str (tx (mv (lfn R R') w z)))) := by
  obtain ⟨y3, y4, y5, y6, y7, y8, y9, y10, e⟩ := mv_outer G u G' hn (some (.str (wx w))) w z none none none none none none none none hw hz hl
  refine rv_def (G := [some (macD k R), some (.str (wx w)), some (.str (tx z)), none, none, none, none, none, none, none, none]) rfl rfl ?_
  unfold p__law_moved
  refine rv_seq (rv_for (rv_iA (ds := w.map chW) (rv_fV rfl) ?_) e) (rv_ret (rv_fV rfl))
  show some (Z.signs (wx w)) = _
  rw [wx_signs]
end
end M

set_option Elab.async false
set_option linter.all false
set_option maxRecDepth 100000
set_option maxHeartbeats 4000000
namespace M
open PySem PySem.Spec PyProof.Rows L2 Z D

theorem fm_congr' {α β : Type} {g h : α → List β} : ∀ l : List α, (∀ a ∈ l, g a = h a) → l.flatMap g = l.flatMap h
  | [], _ => rfl
  | a :: l, e => by rw [List.flatMap_cons, List.flatMap_cons, e a List.mem_cons_self, fm_congr' l fun b hb => e b (List.mem_cons_of_mem _ hb)]
/-! ## tables by letters -/
def tbK (g : Nat → PyData) (L : List Nat) : Kvs := L.map fun t => (chW t, g t)
theorem has_tb (g : Nat → PyData) (t : Nat) (ht : t < 16) : ∀ L : List Nat, vw 16 L → dHas (.inr (lch t)) (tbK g L) = decide (t ∈ L)
  | [], _ => rfl
  | s :: L, h => by
    show (kIs (chW s) (.inr (lch t)) || dHas _ (tbK g L)) = _
    rw [has_tb g t ht L fun r hr => h r (List.mem_cons_of_mem _ hr), kIs_ch (h s List.mem_cons_self) ht, ← Bool.decide_or]
    refine decide_eq_decide.mpr ?_
    rw [List.mem_cons]
    exact or_congr_left ⟨Eq.symm, Eq.symm⟩
theorem get_tb (g : Nat → PyData) (t : Nat) (ht : t < 16) : ∀ L : List Nat, vw 16 L → t ∈ L → dGet (.inr (lch t)) (tbK g L) = some (g t)
  | [], _, h => nomatch h
  | s :: L, h, hm => by
    show (if kIs (chW s) (.inr (lch t)) = true then some (g s) else dGet _ (tbK g L)) = _
    rw [kIs_ch (h s List.mem_cons_self) ht]
    by_cases e : s = t
    · rw [if_pos (decide_eq_true e), e]
    · rw [if_neg (by simpa using e)]
      exact get_tb g t ht L (fun r hr => h r (List.mem_cons_of_mem _ hr)) ((List.mem_cons.mp hm).resolve_left fun e2 => e e2.symm)
theorem put_tb (g : Nat → PyData) (t : Nat) (ht : t < 16) {L : List Nat} (h : vw 16 L) (hn : t ∉ L) : dPut (.inr (lch t)) (g t) (tbK g L) = tbK g (L ++ [t]) := by
  unfold dPut
  rw [has_tb g t ht L h, if_neg (by simpa using hn), tbK, tbK, List.map_append]
  rfl
theorem keys_tb (g : Nat → PyData) : ∀ L : List Nat, ((tbK g L).all fun p => isKey p.1) = true
  | [] => rfl
  | s :: L => keys_tb g L
theorem gv_getT {g : Nat → PyData} {t : Nat} {L : List Nat} (ht : t < 16) (h : vw 16 L) (hm : t ∈ L) : gDGet (.dict (tbK g L)) (chW t) = some (g t) := get_tb g t ht L h hm
theorem rv_dputT {Γ Γ' : Ga} {i : Nat} {fi gg : PX} {g : Nat → PyData} {t : Nat} {L : List Nat} (h1 : gg Γ = some (.ok (g t))) (h0 : Γ[i]? = some (some (.dict (tbK g L)))) (h2 : fi Γ = some (.ok (chW t))) (ht : t < 16) (h : vw 16 L) (hn : t ∉ L) (hl : L.length ≤ 16)
    (h4 : Γ.set i (some (.dict (tbK g (L ++ [t])))) = Γ') : dputX i fi gg Γ = some (.nx Γ') := by
  unfold dputX
  rw [h1]
  simp only [h0, h2]
  show (if (tbK g L).length < big ∧ ((tbK g L).all fun p => isKey p.1) = true then some (Oc.nx (Γ.set i (some (.dict (dPut (.inr (lch t)) (g t) (tbK g L)))))) else none) = _
  rw [if_pos ⟨by unfold tbK; rw [List.length_map]; unfold big; omega, keys_tb g L⟩, put_tb g t ht h hn, h4]
theorem st_tb (f : Lf) (k : Nat) (L : List Nat) : stK f k L = tbK (rowL f k) L := rfl
/-- a comprehension over the letters -/
theorem dcF_tb {item : PyData → Option (Option (Key × PyData))} {g : Nat → PyData} : ∀ (L L0 : List Nat), (∀ t ∈ L, item (chW t) = some (some (.inr (lch t), g t))) → vw 16 L0 → vw 16 L → (L0 ++ L).Nodup → dcF item (tbK g L0) (L.map chW) = some (tbK g (L0 ++ L))
  | [], L0, _, _, _, _ => by rw [List.append_nil]; rfl
  | t :: L, L0, hi, h0, hL, hn => by
    have ht := hL t List.mem_cons_self
    have hnt : t ∉ L0 := fun h => by
      have := (List.nodup_append.mp hn).2.2
      exact this t h t List.mem_cons_self rfl
    rw [List.map_cons, dcF, hi t List.mem_cons_self]
    show dcF item (dPut (.inr (lch t)) (g t) (tbK g L0)) (L.map chW) = _
    rw [put_tb g t ht h0 hnt]
    have e : L0 ++ [t] ++ L = L0 ++ t :: L := by rw [List.append_assoc]; rfl
    rw [dcF_tb L (L0 ++ [t]) (fun s hs => hi s (List.mem_cons_of_mem _ hs)) (fun s hs => (List.mem_append.mp hs).elim (h0 s) fun h => by rw [List.mem_singleton.mp h]; exact ht) (fun s hs => hL s (List.mem_cons_of_mem _ hs)) (by rw [e]; exact hn), e]
/-! ## numbers of images -/
def nfn (f : Lf) (k : Nat) : Nat → Nat → Nat → Nat
  | 0, _, _ => 0
  | i + 1, t, m => (f t (m / k ^ i)).1 * k ^ i + nfn f k i (f t (m / k ^ i)).2 (m % k ^ i)
theorem nfn_num {k N : Nat} {f : Lf} (L : Lts k N f) : ∀ (z : List Nat) (t : Nat), t < N → vw k z → nfn f k z.length t (num k z) = num k (rdL f t z)
  | [], _, _, _ => rfl
  | x :: z, t, ht, hz => by
    have hx := hz x List.mem_cons_self
    have hz' : vw k z := fun s hs => hz s (List.mem_cons_of_mem _ hs)
    have h1 := L.ok t x ht hx
    have hlt : num k z < k ^ z.length := num_lt hz'
    have e : num k (x :: z) = x * k ^ z.length + num k z := by
      show numF k (0 * k + x) z = _
      rw [numF_eq, Nat.zero_mul, Nat.zero_add]
    have e2 : num k (rdL f t (x :: z)) = (f t x).1 * k ^ z.length + num k (rdL f (f t x).2 z) := by
      show numF k (0 * k + (f t x).1) (rdL f (f t x).2 z) = _
      rw [numF_eq, rdL_len, Nat.zero_mul, Nat.zero_add]
    rw [List.length_cons, nfn, e, mk_div hlt, mk_mod hlt, nfn_num L z _ h1.2 hz', e2]
abbrev tupT (f : Lf) (k i t : Nat) : PyData := .tuple ((List.range (k ^ i)).map fun m => PyData.int ((nfn f k i t m : Nat) : Int))
end M

set_option Elab.async false
set_option linter.all false
set_option maxRecDepth 100000
set_option maxHeartbeats 4000000
namespace M
open PySem PySem.Spec PyProof.Rows L2 Z D

theorem rv_dcI {Γ Γ' : Ga} {d z y : PyData} {q : Key} {vs : List Nat} {b : BX} {fk f : PX} (h1 : b d (wipeG Γ vs) = some Γ') (h2 : fk Γ' = some (.ok z)) (h3 : keyOf z = some q) (h4 : f Γ' = some (.ok y)) : dcI vs b fYes fk f Γ d = some (some (q, y)) := by
  unfold dcI
  simp only [h1, fYes, h2, h3, h4]
theorem rv_dc {Γ : Ga} {ii : PIx} {ds : List PyData} {ys : Kvs} {vs : List Nat} {b : BX} {ft : PTx} {fk f : PX} (h1 : ii Γ = some (.ok ds)) (h2 : ds.length ≤ big) (h3 : dcF (dcI vs b ft fk f Γ) [] ds = some ys) : dcX ii vs b ft fk f Γ = some (.ok (.dict ys)) := by
  unfold dcX
  rw [h1]
  simp only [if_pos h2, h3, Option.map_some]
theorem rv_forI {Γ Γ' : Ga} {i : Nat} {b : BX} {s : SX} {ds : List PyData} (h1 : fPairs i Γ = some (.ok ds)) (h2 : forX b s ds Γ = some (.nx Γ')) : forIX i b s Γ = some (.nx Γ') := by
  unfold forIX
  rw [h1]
  simp only [h2]
theorem keys_slot {Γ : Ga} {i : Nat} {f : Lf} {k : Nat} {L : List Nat} (h : Γ[i]? = some (some (.dict (stK f k L)))) (hL : L ≠ []) : fKeys i Γ = some (.ok (L.map chW)) ∧ fPairs i Γ = some (.ok (L.map fun t => .tuple [chW t, rowL f k t])) := by
  have h1 : stK f k L ≠ [] := fun e => hL (List.map_eq_nil_iff.mp e)
  have e1 : (stK f k L).map (·.1) = L.map chW := by unfold stK; rw [List.map_map]; rfl
  have e2 : pairsD (stK f k L) = L.map fun t => .tuple [chW t, rowL f k t] := by unfold pairsD stK; rw [List.map_map]; rfl
  constructor
  · unfold fKeys
    rw [h]
    simp only
    rw [if_pos ⟨h1, keys_st f k L⟩, e1]
  · unfold fPairs
    rw [h]
    simp only
    rw [if_pos ⟨h1, keys_st f k L⟩, e2]
abbrev ltRow : PX := (b1 (lc2X (iA (fV 8)) [10, 11, 9] (bTup 2 (bCons (bNm 10) (bCons (bNm 11) bNil))) fYes (iA (b2 (fV 3) (fV 11) gDGet)) [9] (bNm 9) fYes (b2 (b2 (fV 10) (fV 5) gMul) (fV 9) gAdd)) gTupO)
section
variable {k N : Nat} {f : Lf} {L : List Nat}
theorem row_turns (T : Tb k N f L) {i t : Nat} (hi : i ≤ 5) (ht : t < N) (z0 z1 z2 x4 x6 x7 x9 x10 x11 : Option PyData) :
    ltRow [z0, z1, z2, some (.dict (tbK (tupT f k i) L)), x4, some (.int ((k ^ i : Nat) : Int)), x6, x7, some (rowL f k t), x9, x10, x11] = some (.ok (tupT f k (i + 1) t)) := by
  have hk := T.k2
  have hp : k ^ i ≤ 4096 := pow_small hk.2 (n := 6) (by omega) (by omega)
  have hp1 : k ^ (i + 1) ≤ 4096 := pow_small hk.2 (n := 6) (by omega) (by omega)
  have e : (List.range (k ^ (i + 1))).map (fun m => PyData.int ((nfn f k (i + 1) t m : Nat) : Int)) = (List.range k).flatMap fun x => (List.range (k ^ i)).map fun m => PyData.int ((((f t x).1 * k ^ i + nfn f k i (f t x).2 m : Nat)) : Int) := by
    rw [Nat.pow_succ, Nat.mul_comm, range_mul, List.map_flatMap]
    refine fm_congr' _ fun x _ => ?_
    rw [List.map_map]
    refine List.map_congr_left fun m hm => ?_
    have hm := List.mem_range.mp hm
    show PyData.int ((nfn f k (i + 1) t (x * k ^ i + m) : Nat) : Int) = _
    rw [nfn, mk_div hm, mk_mod hm]
  refine rv_b1 (rv_lc2 (ds := (List.range k).map fun x => PyData.tuple [.int (((f t x).1 : Nat) : Int), chW (f t x).2]) (rv_iA (rv_fV rfl) rfl) (by
    rw [e]
    refine lc2L_map fun x hx => ?_
    have hx := List.mem_range.mp hx
    have h1 := T.lts.ok t x ht hx
    exact rv_lc2I rfl (rv_iA (d := tupT f k i (f t x).2) (rv_b2 (rv_fV rfl) (rv_fV rfl) (gv_getT (Nat.lt_of_lt_of_le h1.2 T.n16) T.l16 (T.all _ h1.2))) rfl) (lcL_map (f := fun m => PyData.int ((nfn f k i (f t x).2 m : Nat) : Int)) (g := fun m => PyData.int ((((f t x).1 * k ^ i + nfn f k i (f t x).2 m : Nat)) : Int)) fun m _ => rv_lcI rfl (rv_isX (rv_b2 (rv_b2 (rv_fV rfl) (rv_fV rfl) (gv_mulR (by omega) (by omega))) (rv_fV rfl) gv_add) (by rw [Int.natCast_add, Int.natCast_mul])))) (by rw [List.length_map, List.length_range]; unfold big; omega)) gv_tupL
theorem turns_in (T : Tb k N f L) {i : Nat} (hi : i ≤ 5) (hlen : L.length ≤ 16) (hlt : vw N L) (z0 z1 z2 x6 : Option PyData) : ∀ (L1 L0 : List Nat) (x4 x8 x9 x10 x11 : Option PyData), (L0 ++ L1).Nodup → vw 16 L0 → vw N L1 → L0.length + L1.length ≤ 16 →
    ∃ y4 y8, forX (bTup 2 (bCons (bNm 4) (bCons (bNm 8) bNil))) (dputX 7 (fV 4) ltRow) (L1.map fun t => .tuple [chW t, rowL f k t]) [z0, z1, z2, some (.dict (tbK (tupT f k i) L)), x4, some (.int ((k ^ i : Nat) : Int)), x6, some (.dict (tbK (tupT f k (i + 1)) L0)), x8, x9, x10, x11] =
      some (.nx [z0, z1, z2, some (.dict (tbK (tupT f k i) L)), y4, some (.int ((k ^ i : Nat) : Int)), x6, some (.dict (tbK (tupT f k (i + 1)) (L0 ++ L1))), y8, x9, x10, x11])
  | [], L0, x4, x8, x9, x10, x11, _, _, _, _ => ⟨x4, x8, by rw [List.append_nil]; rfl⟩
  | t :: L1, L0, x4, x8, x9, x10, x11, hn, h0, h1, hl => by
    have ht := h1 t List.mem_cons_self
    have ht16 := Nat.lt_of_lt_of_le ht T.n16
    rw [List.length_cons] at hl
    have hnt : t ∉ L0 := fun h => (List.nodup_append.mp hn).2.2 t h t List.mem_cons_self rfl
    have e : L0 ++ [t] ++ L1 = L0 ++ t :: L1 := by rw [List.append_assoc]; rfl
    obtain ⟨y4, y8, q⟩ := turns_in T hi hlen hlt z0 z1 z2 x6 L1 (L0 ++ [t]) (some (chW t)) (some (rowL f k t)) x9 x10 x11 (by rw [e]; exact hn) (fun s hs => (List.mem_append.mp hs).elim (h0 s) fun h => by rw [List.mem_singleton.mp h]; exact ht16) (fun s hs => h1 s (List.mem_cons_of_mem _ hs)) (by rw [List.length_append]; simp; omega)
    rw [e] at q
    exact ⟨y4, y8, forX_cons rfl (rv_dputT (row_turns T hi ht _ _ _ _ _ _ _ _ _) rfl (rv_fV rfl) ht16 h0 hnt (by omega) rfl) q⟩
end
theorem lts_nodup (n : Nat) : (lts n).Nodup := by
  unfold lts
  refine List.nodup_append.mpr ⟨?_, ?_, fun a ha b hb e => ?_⟩
  · exact nodup_on (fun x _ y _ e => by have e : 2 * x = 2 * y := e; omega) List.nodup_range
  · exact nodup_on (fun x _ y _ e => by have e : 2 * x + 1 = 2 * y + 1 := e; omega) List.nodup_range
  · obtain ⟨x, _, rfl⟩ := List.mem_map.mp ha
    obtain ⟨y, _, e2⟩ := List.mem_map.mp hb
    have e2 : 2 * y + 1 = b := e2
    have e : 2 * x = b := e
    omega
theorem letter_turns_eq {k : Nat} {R R' : Rows} (G : Good k R) (u : Und k R R') (G' : Good k R') (hn : R.length ≤ 8) (hu : F_undoing [macD k R] = some (.ok (macD k R'))) {n : Nat} (hl : n ≤ 5) : F_letter_turns [macD k R, .int n] = some (.ok (.dict (tbK (tupT (lfn R R') k n) (lts R.length)))) := by
  have hk := G.k2
  have T : Tb k (2 * R.length) (lfn R R') (lts R.length) := ⟨lts_of G u G', hk, by omega, by have := G.n2; omega, lts_lt hn, fun t ht => mem_lts ht⟩
  have hlen : (lts R.length).length = 2 * R.length := by unfold lts; rw [List.length_append, List.length_map, List.length_map, List.length_range]; omega
  have hne : lts R.length ≠ [] := fun e => by rw [e] at hlen; have := G.n2; simp at hlen; omega
  have hvw : vw (2 * R.length) (lts R.length) := fun t ht => by
    rcases List.mem_append.mp ht with h | h
    · obtain ⟨s, hs, rfl⟩ := List.mem_map.mp h
      have := List.mem_range.mp hs
      show 2 * s < _
      omega
    · obtain ⟨s, hs, rfl⟩ := List.mem_map.mp h
      have := List.mem_range.mp hs
      show 2 * s + 1 < _
      omega
  have loop := forR_inv (b := bNm 6) (s := (seqX (asgX (fC (.dict [])) (bNmF 7)) (seqX (forIX 2 (bTup 2 (bCons (bNm 4) (bCons (bNm 8) bNil))) (dputX 7 (fV 4) ltRow)) (seqX (giveX 7 3) (augM 5 (b2 (fV 0) (fC (.int 0)) gIx))))))
    (fun i Γ => ∃ x4 x6 x8, Γ = [some (macD k R), some (.int n), some (stD R R' k), some (.dict (tbK (tupT (lfn R R') k i) (lts R.length))), x4, some (.int ((k ^ i : Nat) : Int)), x6, none, x8, none, none, none]) (n := n)
    (Γ := [some (macD k R), some (.int n), some (stD R R' k), some (.dict (tbK (tupT (lfn R R') k 0) (lts R.length))), none, some (.int 1), none, none, none, none, none, none]) ⟨none, none, none, rfl⟩ ?_
  · obtain ⟨Γ', e, x4, x6, x8, rfl⟩ := loop
    refine rv_def (G := [some (macD k R), some (.int n), none, none, none, none, none, none, none, none, none, none]) rfl rfl ?_
    unfold p_letter_turns
    refine rv_seq_asg (rv_callX (rv_cons (rv_fV rfl) rv_nil) (steps_eq G u G' hn hu)) rfl ?_
    refine rv_seq_asg (d := .dict (tbK (tupT (lfn R R') k 0) (lts R.length))) (rv_dc (keys_slot (f := lfn R R') (k := k) (L := lts R.length) rfl hne).1 (by rw [List.length_map]; unfold big; omega) (dcF_tb (lts R.length) [] (fun t _ => rv_dcI rfl (rv_fV rfl) rfl (rv_c1 (rv_cons rv_fC rv_nil) gv_T1)) (fun _ h => nomatch h) (lts_lt hn) (lts_nodup _))) rfl ?_
    exact rv_seq_asg rv_fC rfl (rv_seq_for (rv_iR1 (rv_fV rfl) (by unfold rgB; omega)) e (rv_ret (rv_fV rfl)))
  · rintro i Γ hi ⟨x4, x6, x8, rfl⟩
    obtain ⟨y4, y8, q⟩ := turns_in T (i := i) (by omega) (by omega) hvw (some (macD k R)) (some (.int n)) (some (stD R R' k)) (some (.int i)) (lts R.length) [] x4 x8 none none none (lts_nodup _) (fun _ h => nomatch h) hvw (by simp; omega)
    refine ⟨_, _, rfl, rv_seq (rv_asg (d := .dict []) rv_fC rfl) (rv_seq (rv_forI (keys_slot (f := lfn R R') (k := k) (L := lts R.length) rfl hne).2 q) (rv_seq (by rfl) (rv_augM rfl (rv_b2 (rv_fV rfl) rv_fC gv_ix0) (.inr ⟨by omega, by omega⟩) rfl))), y4, some (.int i), y8, ?_⟩
    rw [Nat.pow_succ, Int.natCast_mul]
    rfl
end M

set_option Elab.async false
set_option linter.all false
set_option maxRecDepth 100000
set_option maxHeartbeats 4000000
namespace M
open PySem PySem.Spec PyProof.Rows L2 Z D

theorem string_count_eq {k n : Nat} (hk : k ≤ 1000) (hn : n ≤ 1000) : F_string_count [.int k, .int n] = some (.ok (.int ((k ^ n : Nat) : Int))) := by
  have loop := forR_inv (b := bNm 3) (s := augM 2 (fV 0)) (fun i Γ => ∃ y, Γ = [some (.int k), some (.int n), some (.int ((k ^ i : Nat) : Int)), y]) (n := n) (Γ := [some (.int k), some (.int n), some (.int ((1 : Nat) : Int)), none]) ⟨none, rfl⟩ ?_
  · obtain ⟨Γ', e, y, rfl⟩ := loop
    refine rv_def (G := [some (.int k), some (.int n), none, none]) rfl rfl ?_
    unfold p_string_count
    exact rv_seq (rv_asg rv_fC rfl) (rv_seq (rv_for (rv_iR1 (rv_fV rfl) (by unfold rgB; omega)) e) (rv_ret (rv_fV rfl)))
  · rintro i Γ hi ⟨y, rfl⟩
    refine ⟨[some (.int k), some (.int n), some (.int ((k ^ i : Nat) : Int)), some (.int i)], _, rfl, rv_augM rfl (rv_fV rfl) (.inr ⟨by omega, by omega⟩) rfl, some (.int i), ?_⟩
    rw [Nat.pow_succ, Int.natCast_mul]
    rfl
theorem check_count_eq {k : Nat} (hk : 2 ≤ k ∧ k ≤ 4) : F_check_count [.int k] = some (.ok .none) := by
  refine rv_defN (G := [some (.int k)]) rfl rfl (Γ' := [some (.int k)]) ?_
  unfold p_check_count
  refine rv_ifF (rv_is (y := fun _ => none) (rv_toT (rv_b3 (rv_fV rfl) rv_fC (rv_b2 rv_fC rv_fC gv_add) gv_ninRg2)) ?_) rv_nx
  rw [decide_eq_true (by omega)]
  rfl
theorem check_count_bad {k : Int} (hk : ¬ (2 ≤ k ∧ k < 5)) : F_check_count [.int k] = some (.error (.own "BadNumber")) := by
  refine rv_defE (G := [some (.int k)]) rfl rfl (Γ' := [some (.int k)]) ?_
  unfold p_check_count
  refine rv_ifT (rv_is (y := fun _ => none) (rv_toT (rv_b3 (rv_fV rfl) rv_fC (rv_b2 rv_fC rv_fC gv_add) gv_ninRg2)) ?_) (rv_ra rv_fC)
  rw [decide_eq_false (by omega)]
  rfl
theorem find_dig {k : Nat} (hk : k ≤ 10) (c : Nat) : decide ((0 : Int) ≤ Txt.find "0123456789" ⟨#[c]⟩ ∧ Txt.find "0123456789" ⟨#[c]⟩ < (k : Int)) = decide (48 ≤ c ∧ c < 48 + k) := by
  have key : ∀ d : Nat, d < 10 → Txt.find "0123456789" ⟨#[48 + d]⟩ = (d : Int) := by decide +kernel
  by_cases h : 48 ≤ c ∧ c < 58
  · have e : c = 48 + (c - 48) := by omega
    rw [e, key (c - 48) (by omega)]
    exact decide_eq_decide.mpr (by omega)
  · have hn : c ∉ ("0123456789" : Str).cps.toList := fun hm => by
      have e : ("0123456789" : Str).cps.toList = [48, 49, 50, 51, 52, 53, 54, 55, 56, 57] := by rfl
      rw [e] at hm
      simp only [List.mem_cons, List.not_mem_nil, or_false] at hm
      omega
    have h2 := StrLaws.found_one "0123456789" c
    rw [decide_eq_false hn] at h2
    have h3 : Txt.find "0123456789" ⟨#[c]⟩ = -1 := by
      unfold Txt.find
      cases ho : Builtin.Str.occurrences "0123456789" ⟨#[c]⟩ 0 ("0123456789" : Str).length 1 with
      | nil => rfl
      | cons a r => rw [ho] at h2; cases h2
    rw [h3]
    exact decide_eq_decide.mpr (by omega)
theorem has_digits_eq {k : Nat} (hk : k ≤ 10) (z : Str) : F_has_digits [.int k, .str z] = some (.ok (.bool (z.cps.toList.all fun c => decide (48 ≤ c ∧ c < 48 + k)))) := by
  refine rv_def (G := [some (.int k), some (.str z), none]) rfl rfl ?_
  unfold p_has_digits
  exact rv_ret (rv_al (rv_iA (rv_fV rfl) rfl) (alL_map (f := fun c => PyData.str ⟨#[c]⟩) (g := fun c => decide (48 ≤ c ∧ c < 48 + k)) fun c _ => rv_alI rfl (rv_b2 (rv_b2s rv_fC (rv_fV rfl) rfl) (rv_fV rfl) (by rw [← find_dig hk c]; exact gv_inRg))))
theorem digs_tx {k : Nat} {w : List Nat} (h : ∀ x ∈ w, x < k) : ((tx w).cps.toList.all fun c => decide (48 ≤ c ∧ c < 48 + k)) = true := by
  rw [tx_cps, List.all_map, List.all_eq_true]
  intro x hx
  have := h x hx
  show decide (48 ≤ 48 + x ∧ 48 + x < 48 + k) = true
  exact decide_eq_true (by omega)
theorem check_string_ok {k : Nat} {w : List Nat} (hk : k ≤ 10) (hl : w.length ≤ 60) (h : ∀ x ∈ w, x < k) : F_check_string [.int k, .str (tx w)] = some (.ok .none) := by
  refine rv_defN (G := [some (.int k), some (.str (tx w))]) rfl rfl (Γ' := [some (.int k), some (.str (tx w))]) ?_
  unfold p_check_string
  refine rv_ifF (rv_is (y := fun _ => none) (rv_or (rv_toT (rv_b2 (rv_b1 (rv_fV rfl) (gv_lenS (by rw [tx_len]; unfold big; omega))) rv_fC gv_gt)) fun _ => rv_not (rv_toT (rv_callX (rv_cons (rv_fV rfl) (rv_cons (rv_fV rfl) rv_nil)) (has_digits_eq hk _)))) ?_) rv_nx
  rw [digs_tx h, tx_len, decide_eq_false (by omega)]
  rfl
theorem num_loop (k : Nat) (hk : k ≤ 1000) (z : Option PyData) : ∀ (w : List Nat) (a : Nat) (y : Option PyData), (∀ d ∈ w, d < 10) → ∃ y', forX (bNm 3) (asgX (b2 (b2 (fV 2) (fV 0) gMul) (b1 (fV 3) gInt) gAdd) (bNm 2)) (w.map chD) [some (.int k), z, some (.int a), y] = some (.nx [some (.int k), z, some (.int (numF k a w : Nat)), y'])
  | [], a, y, _ => ⟨y, rfl⟩
  | d :: w, a, y, h => by
    obtain ⟨y', e⟩ := num_loop k hk z w (a * k + d) (some (chD d)) fun x hx => h x (List.mem_cons_of_mem _ hx)
    refine ⟨y', ?_⟩
    rw [List.map_cons]
    refine forX_cons (Γ1 := [some (.int k), z, some (.int a), some (chD d)]) (Γ2 := [some (.int k), z, some (.int (a * k + d : Nat)), some (chD d)]) rfl ?_ e
    refine rv_asg (rv_b2 (rv_b2 (rv_fV rfl) (rv_fV rfl) (gv_mulR (by omega) (by omega))) (rv_b1 (rv_fV rfl) (gv_intC d (h d List.mem_cons_self))) (gv_addIs ?_)) rfl
    rw [Int.natCast_add, Int.natCast_mul]
theorem number_of_eq {k : Nat} {w : List Nat} (hk : 2 ≤ k ∧ k ≤ 4) (hl : w.length ≤ 60) (h : ∀ x ∈ w, x < k) : F_number_of [.int k, .str (tx w)] = some (.ok (.int ((num k w : Nat) : Int))) := by
  obtain ⟨y', e⟩ := num_loop k (by omega) (some (.str (tx w))) w 0 none fun d hd => by have := h d hd; omega
  refine rv_def (G := [some (.int k), some (.str (tx w)), none, none]) rfl rfl ?_
  unfold p_number_of
  refine rv_seq_drop (rv_callX (rv_cons (rv_fV rfl) rv_nil) (check_count_eq hk)) ?_
  refine rv_seq_drop (rv_callX (rv_cons (rv_fV rfl) (rv_cons (rv_fV rfl) rv_nil)) (check_string_ok (by omega) hl h)) ?_
  refine rv_seq (rv_asg rv_fC rfl) (rv_seq (rv_for (rv_iA (ds := w.map chD) (rv_fV rfl) ?_) e) (rv_ret (rv_fV rfl)))
  show some (Z.signs (tx w)) = _
  rw [tx_signs]
theorem idx_eq {k d m : Nat} (hk : 1 ≤ k ∧ k ≤ 4) (hd : d ≤ 6) (hN : k ^ d ≤ 256) (hm : m < k ^ d) : gIndex (.list (lvStep k d (k ^ d))) (.str (tx (sh k d m))) = some (.int (m : Nat)) := by
  have hk0 : 0 < k := hk.1
  have asc : ∀ j, Rpr 0 10 (.str (tx (sh k d j))) := fun j => ⟨by
    show (tx (sh k d j)).cps.all _ = true
    rw [← Array.all_toList, List.all_eq_true, tx_cps]
    intro c hc
    obtain ⟨x, hx, rfl⟩ := List.mem_map.mp hc
    have := sh_lt hk0 d j x hx
    exact decide_eq_true (by omega), rfl, rfl, by simp [PyData.depth], by
    simp only [PyData.leavesShort, List.all_eq_true, decide_eq_true_eq]
    intro c hc
    rw [tx_cps] at hc
    obtain ⟨x, hx, rfl⟩ := List.mem_map.mp hc
    have := sh_lt hk0 d j x hx
    omega, by
    show (tx (sh k d j)).cps.size ≤ 10
    rw [← Array.length_toList, tx_cps, List.length_map, sh_len]; omega⟩
  have h1 := rpr_shaped (asc m) (by omega)
  have h2 : SeqAt.shaped (.list (lvStep k d (k ^ d))) = true := rpr_shaped (rpr_lst (c := 0) (n := 10) (N := 3000) (fun x hx => by
    obtain ⟨j, _, rfl⟩ := List.mem_map.mp hx
    exact asc j) (by simp [lvStep]; omega)) (by omega)
  have hf : firstD (.str (tx (sh k d m))) (lvStep k d (k ^ d)) = some m := by
    unfold firstD
    rw [List.findIdx?_eq_some_iff_getElem]
    refine ⟨by simpa [lvStep] using hm, by simp [lvStep, PyData.eqv], fun j hj => ?_⟩
    have hjn : j < k ^ d := by omega
    simp only [lvStep, List.getElem_map, List.getElem_range, PyData.eqv]
    have : tx (sh k d j) ≠ tx (sh k d m) := fun e => by
      have := sh_inj hk0 hjn hm (tx_inj e)
      omega
    simpa using this
  unfold gIndex
  simp only [h1, h2, Bool.and_self, if_true, hf, Option.map_some]
section
variable {k N : Nat} {f : Lf} {L : List Nat}
theorem followed_eq {n t : Nat} {K : Nat} (hK : K ≤ 4096) {h : Nat → Nat} (hh : ∀ m, m < K → h m < k ^ n) : F_followed [.tuple ((List.range K).map fun m => PyData.int ((h m : Nat) : Int)), tupT f k n t] = some (.ok (.tuple ((List.range K).map fun m => PyData.int ((nfn f k n t (h m) : Nat) : Int)))) := by
  refine rv_def (G := [some (.tuple ((List.range K).map fun m => PyData.int ((h m : Nat) : Int))), some (tupT f k n t), none]) rfl rfl ?_
  unfold p_followed
  refine rv_ret (rv_b1 (rv_lc (ds := (List.range K).map fun m => PyData.int ((h m : Nat) : Int)) (rv_iA (rv_fV rfl) rfl) (by rw [List.length_map, List.length_range]; unfold big; omega) (lcL_map (f := fun m => PyData.int ((h m : Nat) : Int)) (g := fun m => PyData.int ((nfn f k n t (h m) : Nat) : Int)) fun m hm => rv_lcI rfl (rv_b2 (rv_fV rfl) (rv_fV rfl) (gv_ixTN rfl ?_)))) gv_tupL)
  rw [List.getElem?_map, List.getElem?_range (hh m (List.mem_range.mp hm))]
  rfl
theorem turned_loop (T : Tb k N f L) {n : Nat} (hn : k ^ n ≤ 4096) (z1 : Option PyData) : ∀ (w : List Nat) (zs : Nat → List Nat) (x3 : Option PyData), vw N w → (∀ m, m < k ^ n → (zs m).length = n ∧ vw k (zs m)) →
    ∃ y3, forX (bNm 3) (asgX (callX (aCons (fV 2) (aCons (b2 (fV 0) (fV 3) gDGet) aNil)) F_followed) (bNm 2)) (w.map chW) [some (.dict (tbK (tupT f k n) L)), z1, some (.tuple ((List.range (k ^ n)).map fun m => PyData.int ((num k (zs m) : Nat) : Int))), x3] =
      some (.nx [some (.dict (tbK (tupT f k n) L)), z1, some (.tuple ((List.range (k ^ n)).map fun m => PyData.int ((num k (mv f w (zs m)) : Nat) : Int))), y3])
  | [], zs, x3, _, _ => ⟨x3, rfl⟩
  | t :: w, zs, x3, hw, hz => by
    have ht := hw t List.mem_cons_self
    obtain ⟨y3, e⟩ := turned_loop T hn z1 w (fun m => rdL f t (zs m)) (some (chW t)) (fun s hs => hw s (List.mem_cons_of_mem _ hs)) (fun m hm => ⟨by rw [rdL_len]; exact (hz m hm).1, rdL_ok T.lts _ t ht (hz m hm).2⟩)
    have hf := followed_eq (f := f) (k := k) (n := n) (t := t) (K := k ^ n) hn (h := fun m => num k (zs m)) (fun m hm => by
      have := num_lt (k := k) (hz m hm).2
      rwa [(hz m hm).1] at this)
    have he : ((List.range (k ^ n)).map fun m => PyData.int ((nfn f k n t (num k (zs m)) : Nat) : Int)) = (List.range (k ^ n)).map fun m => PyData.int ((num k (rdL f t (zs m)) : Nat) : Int) := List.map_congr_left fun m hm => by
      have hm := List.mem_range.mp hm
      have := nfn_num T.lts (zs m) t ht (hz m hm).2
      rw [(hz m hm).1] at this
      rw [this]
    rw [he] at hf
    exact ⟨y3, forX_cons rfl (rv_asg (rv_callX (rv_cons (rv_fV rfl) (rv_cons (rv_b2 (rv_fV rfl) (rv_fV rfl) (gv_getT (Nat.lt_of_lt_of_le ht T.n16) T.l16 (T.all t ht))) rv_nil)) hf) rfl) e⟩
/-- the row of a word -/
abbrev grT (f : Lf) (k n : Nat) (w : List Nat) : PyData := .tuple ((List.range (k ^ n)).map fun j => PyData.int ((img k (ptW f k w) n j : Nat) : Int))
theorem num_mv (L : Lts k N f) (hk : 2 ≤ k ∧ k ≤ 4) {w : List Nat} (hw : vw N w) {n j : Nat} (hj : j < k ^ n) : num k (mv f w (sh k n j)) = img k (ptW f k w) n j ∧ mv f w (sh k n j) = sh k n (img k (ptW f k w) n j) := by
  have G := ptW_gd L hk hw n
  have e := act_sh (k := k) (d := n) (by omega) G n j (Nat.le_refl _) hj
  rw [act_mv L (by omega) hw (sh_lt (by omega) n j)] at e
  exact ⟨by rw [e, num_sh (by omega) n _ (img_lt (by omega) G n j (Nat.le_refl _) hj)], e⟩
theorem turned_eq (T : Tb k N f L) {n : Nat} (hn : k ^ n ≤ 4096) {w : List Nat} (hw : vw N w) : F_turned [.dict (tbK (tupT f k n) L), .str (wx w)] = some (.ok (grT f k n w)) := by
  have hk := T.k2
  obtain ⟨y3, e⟩ := turned_loop T hn (some (.str (wx w))) w (fun m => sh k n m) none hw (fun m hm => ⟨sh_len k n m, sh_lt (by omega) n m⟩)
  have e0 : ((List.range (k ^ n)).map fun m => PyData.int ((num k (sh k n m) : Nat) : Int)) = rgD 0 ((k ^ n : Nat) : Int) := by
    rw [rgD_map]
    exact List.map_congr_left fun m hm => by rw [num_sh (by omega) n m (List.mem_range.mp hm)]
  have e1 : ((List.range (k ^ n)).map fun m => PyData.int ((num k (mv f w (sh k n m)) : Nat) : Int)) = (List.range (k ^ n)).map fun j => PyData.int ((img k (ptW f k w) n j : Nat) : Int) := List.map_congr_left fun m hm => by rw [(num_mv T.lts hk hw (List.mem_range.mp hm)).1]
  rw [e0, e1] at e
  refine rv_def (G := [some (.dict (tbK (tupT f k n) L)), some (.str (wx w)), none, none]) rfl rfl ?_
  unfold p_turned
  have hg : gLen (tupT f k n 0) = some (.int ((k ^ n : Nat) : Int)) := by rw [gv_lenT, List.length_map, List.length_range]
  refine rv_seq (rv_asg (d := .tuple (rgD 0 ((k ^ n : Nat) : Int))) (rv_b1 (rv_b1 (rv_b2 (rv_fV rfl) rv_fC (gv_getT (t := 0) (by decide) T.l16 (T.all 0 T.n1))) hg) (if_pos (by unfold rgOk; omega))) rfl) (rv_seq (rv_for (rv_iA (ds := w.map chW) (rv_fV rfl) ?_) e) (rv_ret (rv_fV rfl)))
  show some (Z.signs (wx w)) = _
  rw [wx_signs]
end
end M

set_option Elab.async false
set_option linter.all false
set_option maxRecDepth 100000
set_option maxHeartbeats 4000000
namespace M
open PySem PySem.Spec PyProof.Rows L2 Z D

section
variable {k : Nat} {R R' : Rows}
abbrev wsD (ws : List (List Nat)) : PyData := .list (ws.map fun w => PyData.str (wx w))
theorem turns_of_eq (G : Good k R) (u : Und k R R') (G' : Good k R') (hn : R.length ≤ 8) (hu : F_undoing [macD k R] = some (.ok (macD k R'))) {n : Nat} (hl : n ≤ 5) {ws : List (List Nat)} (hw : ∀ w ∈ ws, vw (2 * R.length) w) (hws : ws.length ≤ 1000) : F_turns_of [macD k R, wsD ws, .int n] = some (.ok (.list (ws.map fun w => grT (lfn R R') k n w))) := by
  have hk := G.k2
  have T : Tb k (2 * R.length) (lfn R R') (lts R.length) := ⟨lts_of G u G', hk, by omega, by have := G.n2; omega, lts_lt hn, fun t ht => mem_lts ht⟩
  have hp : k ^ n ≤ 4096 := pow_small hk.2 (n := 6) (by omega) (by omega)
  refine rv_def (G := [some (macD k R), some (wsD ws), some (.int n), none, none]) rfl rfl ?_
  unfold p_turns_of
  exact rv_seq_asg (rv_callX (rv_cons (rv_fV rfl) (rv_cons (rv_fV rfl) rv_nil)) (letter_turns_eq G u G' hn hu hl)) rfl (rv_ret (rv_lc (ds := ws.map fun w => PyData.str (wx w)) (rv_iA (rv_fV rfl) rfl) (by rw [List.length_map]; unfold big; omega) (lcL_map (f := fun w => PyData.str (wx w)) (g := fun w => grT (lfn R R') k n w) fun w hm => rv_lcI rfl (rv_callX (rv_cons (rv_fV rfl) (rv_cons (rv_fV rfl) rv_nil)) (turned_eq T hp (hw w hm))))))
theorem words_loop (G : Good k R) (hn : R.length ≤ 8) (z1 z2 : Option PyData) : ∀ (ws : List (List Nat)) (x : Option PyData), (∀ w ∈ ws, vw (2 * R.length) w ∧ w.length ≤ 60) →
    ∃ y, forX (bNm 3) (dropX (callX (aCons (fV 0) (aCons (fV 3) aNil)) F_check_word)) (ws.map fun w => PyData.str (wx w)) [some (macD k R), z1, z2, x] = some (.nx [some (macD k R), z1, z2, y])
  | [], x, _ => ⟨x, rfl⟩
  | w :: ws, x, h => by
    obtain ⟨y, e⟩ := words_loop G hn z1 z2 ws (some (.str (wx w))) fun w' hw' => h w' (List.mem_cons_of_mem _ hw')
    have h1 := h w List.mem_cons_self
    exact ⟨y, forX_cons rfl (rv_drop (rv_callX (rv_cons (rv_fV rfl) (rv_cons (rv_fV rfl) rv_nil)) (check_word_ok G hn h1.1 h1.2))) e⟩
theorem level_graph_eq (G : Good k R) (u : Und k R R') (G' : Good k R') (hn : R.length ≤ 8) (hu : F_undoing [macD k R] = some (.ok (macD k R'))) {n : Nat} (hl : n ≤ 4) {ws : List (List Nat)} (hw : ∀ w ∈ ws, vw (2 * R.length) w ∧ w.length ≤ 60) (hws : 1 ≤ ws.length ∧ ws.length ≤ 6) : F_level_graph [macD k R, wsD ws, .int n] = some (.ok (.tuple (ws.map fun w => grT (lfn R R') k n w))) := by
  have hk := G.k2
  have hp : k ^ n ≤ 4 ^ 4 := Nat.le_trans (Nat.pow_le_pow_left hk.2 n) (Nat.pow_le_pow_right (by decide) hl)
  have h44 : (4 : Nat) ^ 4 = 256 := by decide
  obtain ⟨y, e⟩ := words_loop (k := k) G hn (some (wsD ws)) (some (.int n)) ws none hw
  refine rv_def (G := [some (macD k R), some (wsD ws), some (.int n), none]) rfl rfl ?_
  unfold p_level_graph
  refine rv_seq_drop (rv_callX (rv_cons (rv_fV rfl) rv_nil) (check_machine_ok G hn)) ?_
  refine rv_seq_for (rv_iA (rv_fV rfl) rfl) e ?_
  refine rv_seq_ifF (rv_is (y := fun _ => none) (rv_or (b := false) (b' := false) (rv_is (y := fun _ => none) (rv_not (b := true) (rv_is (y := fun _ => none) (rv_toT (rv_chain rv_fC (rv_b1 (rv_fV rfl) gv_lenL) gv_le (fun _ => rv_fC) fun _ => gv_le)) (by rw [List.length_map, decide_eq_true (by omega), decide_eq_true (by omega)]; rfl))) rfl) fun _ => rv_is (y := fun _ => none) (rv_toT (rv_b2 (rv_fV rfl) rv_fC gv_lt)) (decide_eq_false (by omega))) rfl) (rv_seq_nxX ?_)
  refine rv_seq_ifF (rv_is (y := fun _ => none) (rv_or (b := false) (b' := false) (rv_is (y := fun _ => none) (rv_toT (rv_b2 (rv_fV rfl) rv_fC gv_gt)) (decide_eq_false (by omega))) fun _ => rv_is (y := fun _ => none) (rv_toT (rv_b2 (rv_callX (rv_cons (rv_b2 (rv_fV rfl) rv_fC gv_ix0) (rv_cons (rv_fV rfl) rv_nil)) (string_count_eq (by omega) (by omega))) rv_fC gv_gt)) (decide_eq_false (by omega))) rfl) (rv_seq_nxX ?_)
  exact rv_ret (rv_b1 (rv_callX (rv_cons (rv_fV rfl) (rv_cons (rv_fV rfl) (rv_cons (rv_fV rfl) rv_nil))) (turns_of_eq G u G' hn hu (by omega) (fun w hm => (hw w hm).1) (by omega))) gv_tupL)
/-! ### what is refused -/
theorem graph_m {kk : Int} {Q : Rows} {ws n : PyData} (hs : small Q) (hb : wideB kk Q = false) : F_level_graph [macD kk Q, ws, n] = some (.error (.own "NotMachine")) := by
  refine rv_defE (G := [some (macD kk Q), some ws, some n, none]) rfl rfl (Γ' := [some (macD kk Q), some ws, some n, none]) ?_
  unfold p_level_graph
  exact rv_seq_dropE (rv_callX (rv_cons (rv_fV rfl) rv_nil) (check_machine_no hs hb))
theorem graph_n (G : Good k R) (hn : R.length ≤ 8) {n : Int} {ws : List (List Nat)} (hw : ∀ w ∈ ws, vw (2 * R.length) w ∧ w.length ≤ 60) (h : ws.length = 0 ∨ 6 < ws.length ∨ n < 0) : F_level_graph [macD k R, wsD ws, .int n] = some (.error (.own "BadNumber")) := by
  obtain ⟨y, e⟩ := words_loop (k := k) G hn (some (wsD ws)) (some (.int n)) ws none hw
  refine rv_defE (G := [some (macD k R), some (wsD ws), some (.int n), none]) rfl rfl (Γ' := [some (macD k R), some (wsD ws), some (.int n), y]) ?_
  unfold p_level_graph
  refine rv_seq_drop (rv_callX (rv_cons (rv_fV rfl) rv_nil) (check_machine_ok G hn)) ?_
  refine rv_seq_for (rv_iA (rv_fV rfl) rfl) e ?_
  refine rv_seqE (rv_ifT (rv_is (y := fun _ => none) (rv_or (b := !(decide ((1 : Int) ≤ ((ws.map fun w => PyData.str (wx w)).length : Nat)) && decide ((((ws.map fun w => PyData.str (wx w)).length : Nat) : Int) ≤ 6))) (rv_not (rv_toT (rv_chain rv_fC (rv_b1 (rv_fV rfl) gv_lenL) gv_le (fun _ => rv_fC) fun _ => gv_le))) fun _ => rv_toT (rv_b2 (rv_fV rfl) rv_fC gv_lt)) ?_) (rv_ra rv_fC))
  rw [List.length_map]
  rcases h with h | h | h
  · rw [h]; rfl
  · rw [decide_eq_true (show (1 : Int) ≤ (ws.length : Nat) by omega), decide_eq_false (show ¬ ((ws.length : Nat) : Int) ≤ 6 by omega)]; rfl
  · rw [decide_eq_true h, Bool.or_true]
theorem graph_l (G : Good k R) (hn : R.length ≤ 8) {ws : List (List Nat)} (hw : ∀ w ∈ ws, vw (2 * R.length) w ∧ w.length ≤ 60) (hws : 1 ≤ ws.length ∧ ws.length ≤ 6) : F_level_graph [macD k R, wsD ws, .int 11] = some (.error (.own "TooLarge")) := by
  obtain ⟨y, e⟩ := words_loop (k := k) G hn (some (wsD ws)) (some (.int 11)) ws none hw
  refine rv_defE (G := [some (macD k R), some (wsD ws), some (.int 11), none]) rfl rfl (Γ' := [some (macD k R), some (wsD ws), some (.int 11), y]) ?_
  unfold p_level_graph
  refine rv_seq_drop (rv_callX (rv_cons (rv_fV rfl) rv_nil) (check_machine_ok G hn)) ?_
  refine rv_seq_for (rv_iA (rv_fV rfl) rfl) e ?_
  refine rv_seq_ifF (rv_is (y := fun _ => none) (rv_or (b := false) (b' := false) (rv_is (y := fun _ => none) (rv_not (b := true) (rv_is (y := fun _ => none) (rv_toT (rv_chain rv_fC (rv_b1 (rv_fV rfl) gv_lenL) gv_le (fun _ => rv_fC) fun _ => gv_le)) (by rw [List.length_map, decide_eq_true (by omega), decide_eq_true (by omega)]; rfl))) rfl) fun _ => rv_is (y := fun _ => none) (rv_toT (rv_b2 (rv_fV rfl) rv_fC gv_lt)) rfl) rfl) (rv_seq_nxX ?_)
  exact rv_seqE (rv_ifT (rv_is (y := fun _ => none) (rv_or (b := true) (b' := true) (rv_is (y := fun _ => none) (rv_toT (rv_b2 (rv_fV rfl) rv_fC gv_gt)) rfl) fun h => Bool.noConfusion h) rfl) (rv_ra rv_fC))
theorem told_ok {m w d v : PyData} (h : F_level_graph [m, w, d] = some (.ok v)) : F__law_told [m, w, d] = some (.ok v) := by
  refine rv_def (G := [some m, some w, some d]) rfl rfl ?_
  unfold p__law_told
  exact rv_tryM (rv_ret (rv_callX (rv_cons (rv_fV rfl) (rv_cons (rv_fV rfl) (rv_cons (rv_fV rfl) rv_nil))) h))
theorem told_m {m w d : PyData} (h : F_level_graph [m, w, d] = some (.error (.own "NotMachine"))) : F__law_told [m, w, d] = some (.ok (.str "machine")) := by
  refine rv_def (G := [some m, some w, some d]) rfl rfl ?_
  unfold p__law_told
  exact rv_tryE (e := .own "NotMachine") (rv_retE (rv_callX (rv_cons (rv_fV rfl) (rv_cons (rv_fV rfl) (rv_cons (rv_fV rfl) rv_nil))) h)) rfl (rv_ret rv_fC)
theorem told_w {m w d : PyData} (h : F_level_graph [m, w, d] = some (.error (.own "NotWord"))) : F__law_told [m, w, d] = some (.ok (.str "word")) := by
  refine rv_def (G := [some m, some w, some d]) rfl rfl ?_
  unfold p__law_told
  exact rv_tryE (e := .own "NotWord") (rv_retE (rv_callX (rv_cons (rv_fV rfl) (rv_cons (rv_fV rfl) (rv_cons (rv_fV rfl) rv_nil))) h)) rfl (rv_ret rv_fC)
theorem told_n {m w d : PyData} (h : F_level_graph [m, w, d] = some (.error (.own "BadNumber"))) : F__law_told [m, w, d] = some (.ok (.str "number")) := by
  refine rv_def (G := [some m, some w, some d]) rfl rfl ?_
  unfold p__law_told
  exact rv_tryE (e := .own "BadNumber") (rv_retE (rv_callX (rv_cons (rv_fV rfl) (rv_cons (rv_fV rfl) (rv_cons (rv_fV rfl) rv_nil))) h)) rfl (rv_ret rv_fC)
theorem told_l {m w d : PyData} (h : F_level_graph [m, w, d] = some (.error (.own "TooLarge"))) : F__law_told [m, w, d] = some (.ok (.str "large")) := by
  refine rv_def (G := [some m, some w, some d]) rfl rfl ?_
  unfold p__law_told
  exact rv_tryE (e := .own "TooLarge") (rv_retE (rv_callX (rv_cons (rv_fV rfl) (rv_cons (rv_fV rfl) (rv_cons (rv_fV rfl) rv_nil))) h)) rfl (rv_ret rv_fC)
end
end M

set_option Elab.async false
set_option linter.all false
set_option maxRecDepth 100000
set_option maxHeartbeats 4000000
namespace M
open PySem PySem.Spec PyProof.Rows L2 Z D

def okS : Option Res → Str → Bool
  | some (.ok (.str a)), b => decide (a = b)
  | _, _ => false
theorem okS_ok {r : Option Res} {n : Str} (h : okS r n = true) : r = some (.ok (.str n)) := by
  unfold okS at h
  split at h
  · rw [of_decide_eq_true h]
  · cases h
def okI : Option Res → Nat → Bool
  | some (.ok (.int a)), b => decide (a = (b : Int))
  | _, _ => false
theorem okI_ok {r : Option Res} {n : Nat} (h : okI r n = true) : r = some (.ok (.int n)) := by
  unfold okI at h
  split at h
  · rw [of_decide_eq_true h]
  · cases h
def chkA (k n : Nat) : Bool := (List.range (k ^ n)).all fun a => okS (F__law_at [.int k, .int n, .int a]) (tx (sh k n a)) && okI (F__law_number [.int k, .str (tx (sh k n a))]) a
theorem chk_all : ∀ k : Nat, k < 4 → 2 ≤ k → ∀ n : Nat, n < 5 → chkA k n = true := by decide +kernel
def chkB (k : Nat) : Bool := okS (F__law_at [.int k, .int 11, .int 0]) "number" && okS (F__law_number [.int k, .str "01x"]) "string" && (match gStr (.int k) with | some z => okS (F__law_number [.int k, z]) "string" | none => false)
theorem chkB_all : ∀ k : Nat, k < 4 → 2 ≤ k → chkB k = true := by decide +kernel
theorem chkC : ∀ k : Nat, k < 4 → 2 ≤ k → ∀ n : Nat, n < 5 → okS (F__law_at [.int k, .int n, .int ((k ^ n : Nat) : Int)]) "number" = true := by decide +kernel
theorem chkD : okS (F__law_at [.int 5, .int 1, .int 0]) "number" = true ∧ okS (F__law_number [.int 1, .str "0"]) "number" = true := by decide +kernel
theorem isnot_tt : gIsNot (.bool true) (.bool true) = some (.bool false) := rfl
section
variable {k : Nat} {R R' : Rows}
theorem check_word_hz (G : Good k R) (hn : R.length ≤ 8) : F_check_word [macD k R, .str "hz"] = some (.error (.own "NotWord")) := by
  have h := has_letters_eq (k := k) hn "hz"
  have e : (("hz" : Str).cps.toList.all fun c => decide (c ∈ (List.range (2 * R.length)).map lc)) = false := by
    have e0 : ("hz" : Str).cps.toList = [104, 122] := by rfl
    rw [e0, List.all_cons, List.all_cons, List.all_nil, Bool.and_true]
    have : decide (122 ∈ (List.range (2 * R.length)).map lc) = false := decide_eq_false fun hm => by
      obtain ⟨t, ht, e⟩ := List.mem_map.mp hm
      have := List.mem_range.mp ht
      unfold lc at e
      split at e <;> omega
    rw [this, Bool.and_false]
  rw [e] at h
  refine rv_defE (G := [some (macD k R), some (.str "hz")]) rfl rfl (Γ' := [some (macD k R), some (.str "hz")]) ?_
  unfold p_check_word
  refine rv_seq_drop (rv_callX (rv_cons (rv_fV rfl) rv_nil) (check_machine_ok G hn)) ?_
  exact rv_ifT (rv_is (y := fun _ => none) (rv_or (rv_toT (rv_b2 (rv_b1 (rv_fV rfl) (gv_lenS (by decide))) rv_fC gv_gt)) fun _ => rv_not (rv_toT (rv_callX (rv_cons (rv_fV rfl) (rv_cons (rv_fV rfl) rv_nil)) h))) rfl) (rv_ra rv_fC)
theorem words_bad (G : Good k R) (hn : R.length ≤ 8) (z1 z2 : Option PyData) : ∀ (ws : List (List Nat)) (x : Option PyData), (∀ w ∈ ws, vw (2 * R.length) w ∧ w.length ≤ 60) →
    ∃ Γ', forX (bNm 3) (dropX (callX (aCons (fV 0) (aCons (fV 3) aNil)) F_check_word)) (ws.map (fun w => PyData.str (wx w)) ++ [.str "hz"]) [some (macD k R), z1, z2, x] = some (.ex (.own "NotWord") Γ')
  | [], x, _ => by
    refine ⟨[some (macD k R), z1, z2, some (.str "hz")], ?_⟩
    have h : dropX (callX (aCons (fV 0) (aCons (fV 3) aNil)) F_check_word) [some (macD k R), z1, z2, some (.str "hz")] = some (.ex (.own "NotWord") [some (macD k R), z1, z2, some (.str "hz")]) := rv_dropE (rv_callX (rv_cons (rv_fV rfl) (rv_cons (rv_fV rfl) rv_nil)) (check_word_hz G hn))
    show forX _ _ [.str "hz"] _ = _
    unfold forX
    rw [show bNm 3 (.str "hz") [some (macD k R), z1, z2, x] = some [some (macD k R), z1, z2, some (.str "hz")] from rfl]
    simp only [h]
  | w :: ws, x, h => by
    obtain ⟨Γ', e⟩ := words_bad G hn z1 z2 ws (some (.str (wx w))) fun w' hw' => h w' (List.mem_cons_of_mem _ hw')
    have h1 := h w List.mem_cons_self
    exact ⟨Γ', forX_cons rfl (rv_drop (rv_callX (rv_cons (rv_fV rfl) (rv_cons (rv_fV rfl) rv_nil)) (check_word_ok G hn h1.1 h1.2))) e⟩
theorem graph_w (G : Good k R) (hn : R.length ≤ 8) {n : PyData} {ws : List (List Nat)} (hw : ∀ w ∈ ws, vw (2 * R.length) w ∧ w.length ≤ 60) : F_level_graph [macD k R, .list (ws.map (fun w => PyData.str (wx w)) ++ [.str "hz"]), n] = some (.error (.own "NotWord")) := by
  obtain ⟨Γ', e⟩ := words_bad (k := k) G hn (some (.list (ws.map (fun w => PyData.str (wx w)) ++ [.str "hz"]))) (some n) ws none hw
  refine rv_defE (G := [some (macD k R), some (.list (ws.map (fun w => PyData.str (wx w)) ++ [.str "hz"])), some n, none]) rfl rfl (Γ' := Γ') ?_
  unfold p_level_graph
  exact rv_seq_drop (rv_callX (rv_cons (rv_fV rfl) rv_nil) (check_machine_ok G hn)) (rv_seqE (rv_for (rv_iA (rv_fV rfl) rfl) e))
theorem is_graph_eq {f : Lf} {N : Nat} (L : Lts k N f) (hk : 2 ≤ k ∧ k ≤ 4) {n : Nat} (hl : n ≤ 4) {w0 : List Nat} {ws : List (List Nat)} (hw : ∀ w ∈ w0 :: ws, vw N w) (hws : ws.length ≤ 5) : F_is_graph [.tuple ((w0 :: ws).map fun w => grT f k n w)] = some (.ok (.bool true)) := by
  have hp : k ^ n ≤ 4 ^ 4 := Nat.le_trans (Nat.pow_le_pow_left hk.2 n) (Nat.pow_le_pow_right (by decide) hl)
  have h44 : (4 : Nat) ^ 4 = 256 := by decide
  have hp0 : 0 < k ^ n := Nat.pow_pos (by omega)
  have hlen : ((w0 :: ws).map fun w => grT f k n w).length = ws.length + 1 := by rw [List.length_map, List.length_cons]
  have hg : gLen (grT f k n w0) = some (.int ((k ^ n : Nat) : Int)) := by rw [gv_lenT, List.length_map, List.length_range]
  refine rv_def (G := [some (.tuple ((w0 :: ws).map fun w => grT f k n w)), none, none]) rfl rfl ?_
  unfold p_is_graph
  refine rv_seq_ifF (rv_is (y := fun _ => none) (rv_or (b := false) (b' := false) (rv_is (y := fun _ => none) (rv_not (b := true) (rv_is (y := fun _ => none) (rv_toT (rv_chain rv_fC (rv_b1 (rv_fV rfl) gv_lenT) gv_le (fun _ => rv_fC) fun _ => gv_le)) (by rw [hlen, decide_eq_true (by omega), decide_eq_true (by omega)]; rfl))) rfl) fun _ =>
    rv_is (y := fun _ => none) (rv_not (b := true) (rv_is (y := fun _ => none) (rv_toT (rv_chain rv_fC (rv_b1 (rv_b2 (rv_fV rfl) rv_fC gv_ix0) hg) gv_le (fun _ => rv_fC) fun _ => gv_le)) (by rw [decide_eq_true (by omega), decide_eq_true (by omega)]; rfl))) rfl) rfl) (rv_seq_nxX ?_)
  refine rv_seq_asg (d := .list (rgD 0 ((k ^ n : Nat) : Int))) (rv_b1 (rv_b1 (rv_b2 (rv_fV rfl) rv_fC gv_ix0) hg) (gv_rg (by unfold rgOk; omega))) rfl ?_
  refine rv_ret (rv_isX (rv_al (ds := (w0 :: ws).map fun w => grT f k n w) (rv_iA (rv_fV rfl) rfl) (alL_map (f := fun w => grT f k n w) (g := fun _ => true) fun w hm => rv_alI rfl (rv_b2 (d := .list ((rg (k ^ n)).map .int)) (rv_b1 (rv_fV rfl) ?_) (rv_fV rfl) ?_))) (by rw [List.all_eq_true.mpr fun _ _ => rfl]))
  · have hperm := img_perm (k := k) (d := n) (by omega) (ptW_gd L hk (hw w hm) n) n (Nat.le_refl _)
    have e : grT f k n w = .tuple (((List.range (k ^ n)).map fun j => ((img k (ptW f k w) n j : Nat) : Int)).map .int) := by
      show PyData.tuple _ = PyData.tuple _
      rw [List.map_map]
      rfl
    rw [e, gv_sortT]
    have hpi : ((List.range (k ^ n)).map fun j => ((img k (ptW f k w) n j : Nat) : Int)).Perm (rg (k ^ n)) := by
      have := hperm.map (fun (x : Nat) => (x : Int))
      rw [List.map_map] at this
      exact this
    rw [isort_rg hpi]
  · rw [rgD_rg]
    exact gv_eqB (by rw [eq_lists, decide_eq_true rfl])
theorem law_graph_eq (G : Good k R) (u : Und k R R') (G' : Good k R') (hn : R.length ≤ 8) {n : Nat} (hl : n ≤ 4) {ws : List (List Nat)} (hw : ∀ w ∈ ws, vw (2 * R.length) w) (hws : ws.length ≤ 1000) : F__law_graph [macD k R, wsD ws, .int n] = some (.ok (.tuple (ws.map fun w => grT (lfn R R') k n w))) := by
  have hk := G.k2
  have L := lts_of G u G'
  have hp : k ^ n ≤ 4 ^ 4 := Nat.le_trans (Nat.pow_le_pow_left hk.2 n) (Nat.pow_le_pow_right (by decide) hl)
  have h44 : (4 : Nat) ^ 4 = 256 := by decide
  have row : ∀ w ∈ ws, ∀ x5 x6 x4 : Option PyData, b1 (lcX (iA (fV 3)) [6] (bNm 6) fYes (b2 (fI (fV 3)) (callX (aCons (fV 0) (aCons (fV 5) (aCons (fV 6) aNil))) F__law_moved) gIndex)) gTupO [some (macD k R), some (wsD ws), some (.int n), some (.list (lvStep k n (k ^ n))), x4, some (.str (wx w)), x6] = some (.ok (grT (lfn R R') k n w)) := fun w hm x5 x6 x4 => by
    refine rv_b1 (rv_lc (ds := lvStep k n (k ^ n)) (rv_iA (rv_fV rfl) rfl) (by unfold lvStep; rw [List.length_map, List.length_range]; unfold big; omega) (lcL_map (f := fun j => PyData.str (tx (sh k n j))) (g := fun j => PyData.int ((img k (ptW (lfn R R') k w) n j : Nat) : Int)) fun j hj => ?_)) gv_tupL
    have hj := List.mem_range.mp hj
    have e := moved_eq G u G' hn (hw w hm) (z := sh k n j) (sh_lt (by omega) n j) (by rw [sh_len]; omega)
    rw [(num_mv L hk (hw w hm) hj).2] at e
    have hi := img_lt (k := k) (by omega) (ptW_gd L hk (hw w hm) n) n j (Nat.le_refl _) hj
    exact rv_lcI rfl (rv_b2 (rv_fI (rv_fV rfl) isI_L) (rv_callX (rv_cons (rv_fV rfl) (rv_cons (rv_fV rfl) (rv_cons (rv_fV rfl) rv_nil))) e) (idx_eq ⟨by omega, hk.2⟩ (by omega) (by omega) hi))
  have loop : ∀ (ws1 ws0 : List (List Nat)) (x5 : Option PyData), (∀ w ∈ ws1, w ∈ ws) → ws0.length + ws1.length ≤ 1000 → ∃ y5, forX (bNm 5) (appX 4 (b1 (lcX (iA (fV 3)) [6] (bNm 6) fYes (b2 (fI (fV 3)) (callX (aCons (fV 0) (aCons (fV 5) (aCons (fV 6) aNil))) F__law_moved) gIndex)) gTupO)) (ws1.map fun w => PyData.str (wx w))
      [some (macD k R), some (wsD ws), some (.int n), some (.list (lvStep k n (k ^ n))), some (.list (ws0.map fun w => grT (lfn R R') k n w)), x5, none] = some (.nx [some (macD k R), some (wsD ws), some (.int n), some (.list (lvStep k n (k ^ n))), some (.list ((ws0 ++ ws1).map fun w => grT (lfn R R') k n w)), y5, none]) := by
    intro ws1
    induction ws1 with
    | nil => intro ws0 x5 _ _; exact ⟨x5, by rw [List.append_nil]; rfl⟩
    | cons w ws1 ih =>
      intro ws0 x5 hm hlen
      rw [List.length_cons] at hlen
      obtain ⟨y5, e⟩ := ih (ws0 ++ [w]) (some (.str (wx w))) (fun w' h' => hm w' (List.mem_cons_of_mem _ h')) (by rw [List.length_append]; simp; omega)
      rw [List.append_assoc] at e
      exact ⟨y5, forX_cons rfl (rv_app rfl (row w (hm w List.mem_cons_self) none none _) (by rw [List.length_map]; unfold big; omega) (by rw [List.map_append]; rfl)) e⟩
  obtain ⟨y5, e⟩ := loop ws [] none (fun _ h => h) (by simp; omega)
  refine rv_def (G := [some (macD k R), some (wsD ws), some (.int n), none, none, none, none]) rfl rfl ?_
  unfold p__law_graph
  exact rv_seq_asg (rv_callX (rv_cons (rv_b2 (rv_fV rfl) rv_fC gv_ix0) (rv_cons (rv_fV rfl) rv_nil)) (level_eq ⟨by omega, hk.2⟩ (by omega))) rfl (rv_seq_asg (rv_c1 rv_nil gv_L0) rfl (rv_seq_for (rv_iA (rv_fV rfl) rfl) e (rv_ret (rv_b1 (rv_fOl rfl) gv_tupL))))
end
end M

set_option Elab.async false
set_option linter.all false
set_option maxRecDepth 100000
set_option maxHeartbeats 4000000
namespace M
open PySem PySem.Spec PyProof.Rows L2 Z D

theorem rpr_nat : ∀ x : Nat, x < 300 → Rpr 0 9 (.int (x : Int)) := fun x hx => by
  have key : ∀ x : Nat, x < 300 → decide (((x : Int).natAbs.log2 < 1920) ∧ (PyData.shown (.int (x : Int))).length ≤ 13 ∧ (PyData.int (x : Int)).weight ≤ 9) = true := by decide +kernel
  obtain ⟨h1, h2, h3⟩ := of_decide_eq_true (key x hx)
  exact ⟨rfl, decide_eq_true h1, rfl, by simp [PyData.depth], decide_eq_true h2, h3⟩
theorem rpr_graph {k n N : Nat} {f : Lf} {ws : List (List Nat)} (L : Lts k N f) (hk : 2 ≤ k ∧ k ≤ 4) (hp : k ^ n ≤ 256) (hw : ∀ w ∈ ws, vw N w) (hl : ws.length ≤ 6) : gReprD (.tuple (ws.map fun w => grT f k n w)) = some (.str (PyData.tuple (ws.map fun w => grT f k n w)).shown) := by
  refine gv_reprT (c := 2) (n := 20000) (rpr_tup (c := 1) (n := 3000) (fun d hd => ?_) (by rw [List.length_map]; omega)) (by omega) (by omega)
  obtain ⟨w, hm, rfl⟩ := List.mem_map.mp hd
  refine rpr_tup (c := 0) (n := 9) (fun x hx => ?_) (by rw [List.length_map, List.length_range]; omega)
  obtain ⟨j, hj, rfl⟩ := List.mem_map.mp hx
  have := img_lt (k := k) (by omega) (ptW_gd L hk (hw w hm) n) n j (Nat.le_refl _) (List.mem_range.mp hj)
  exact rpr_nat _ (by omega)
theorem law_eq (xs : List Int) : F_law [.list (xs.map .int)] = some (.ok (.bool true)) := by
  obtain ⟨k, hk, hk2, hk3⟩ : ∃ k : Nat, (k : Int) = 2 + xs.getD 0 0 % 2 ∧ 2 ≤ k ∧ k ≤ 3 := ⟨(2 + xs.getD 0 0 % 2).toNat, by omega, by omega, by omega⟩
  obtain ⟨n, hn, hn1, hn4⟩ : ∃ n : Nat, (n : Int) = 1 + xs.getD 0 0 / 2 % 4 ∧ 1 ≤ n ∧ n ≤ 4 := ⟨(1 + xs.getD 0 0 / 2 % 4).toNat, by omega, by omega, by omega⟩
  obtain ⟨c, hc, hc1, hc3⟩ : ∃ c : Nat, (c : Int) = 1 + xs.getD 3 0 % 3 ∧ 1 ≤ c ∧ c ≤ 3 := ⟨(1 + xs.getD 3 0 % 3).toNat, by omega, by omega, by omega⟩
  obtain ⟨l, hl, hl4⟩ : ∃ l : Nat, (l : Int) = xs.getD 3 0 / 3 % 5 ∧ l ≤ 4 := ⟨(xs.getD 3 0 / 3 % 5).toNat, by omega, by omega⟩
  have hkk : 2 ≤ k ∧ k ≤ 4 := ⟨hk2, by omega⟩
  have hp : k ^ l ≤ 4 ^ 4 := Nat.le_trans (Nat.pow_le_pow_left (by omega) l) (Nat.pow_le_pow_right (by decide) hl4)
  have h44 : (4 : Nat) ^ 4 = 256 := by decide
  have hp0 : 0 < k ^ l := Nat.pow_pos (by omega)
  obtain ⟨a, ha, hat⟩ : ∃ a : Nat, (a : Int) = xs.getD 8 0 % (k ^ l : Nat) ∧ a < k ^ l := by
    have x := Int.emod_nonneg (xs.getD 8 0) (show ((k ^ l : Nat) : Int) ≠ 0 by omega)
    have y := Int.emod_lt_of_pos (xs.getD 8 0) (show (0 : Int) < (k ^ l : Nat) by omega)
    exact ⟨(xs.getD 8 0 % (k ^ l : Nat)).toNat, by omega, by omega⟩
  obtain ⟨R, eM, hRl, hRg⟩ := machine_eq (xs.getD 1 0) (xs.getD 2 0) k n hkk ⟨hn1, by omega⟩
  have G : Good k R := ⟨hkk, by omega, by rw [hRl]; exact hRg⟩
  obtain ⟨R', hu, u, G'⟩ := undoing_eq G
  have hn8 : R.length ≤ 8 := by omega
  have L := lts_of G u G'
  obtain ⟨Wf, hW⟩ := Classical.skolem.mp fun j : Nat => law_word_eq (xs.getD (4 + j) 0) n 5 ⟨hn1, by omega⟩ (by omega)
  obtain ⟨ws, hws⟩ : ∃ ws, ws = (List.range c).map Wf := ⟨_, rfl⟩
  have hlen : ws.length = c := by rw [hws, List.length_map, List.length_range]
  have hw : ∀ w ∈ ws, vw (2 * R.length) w ∧ w.length ≤ 60 := fun w hm => by
    rw [hws] at hm
    obtain ⟨j, _, rfl⟩ := List.mem_map.mp hm
    exact ⟨by rw [hRl]; exact (hW j).2.2, by have := (hW j).2.1; omega⟩
  have eT := told_ok (level_graph_eq G u G' hn8 hu hl4 hw (by omega))
  have eLG := law_graph_eq G u G' hn8 hl4 (fun w hm => (hw w hm).1) (by omega : ws.length ≤ 1000)
  have hig : F_is_graph [.tuple (ws.map fun w => grT (lfn R R') k l w)] = some (.ok (.bool true)) := by
    cases hc0 : ws with
    | nil => rw [hc0] at hlen; simp at hlen; omega
    | cons w0 ws' =>
      rw [hc0] at hlen hw
      rw [List.length_cons] at hlen
      exact is_graph_eq L hkk hl4 (fun w hm => (hw w hm).1) (by omega)
  have rpG := rpr_graph (f := lfn R R') (k := k) (n := l) L hkk (by omega) (fun w hm => (hw w hm).1) (by omega : ws.length ≤ 6)
  have c0 : ∀ j : Nat, F__law_cell [.list (xs.map .int), .int (j : Nat)] = some (.ok (.int (xs.getD j 0))) := fun j => cell_eq xs j
  have c4 : ∀ j : Nat, F__law_cell [.list (xs.map .int), .int (4 + j)] = some (.ok (.int (xs.getD (4 + j) 0))) := fun j => by
    have := cell_eq xs (4 + j)
    rwa [Int.natCast_add] at this
  have hA := List.all_eq_true.mp (chk_all k (by omega) hk2 l (by omega)) a (List.mem_range.mpr hat)
  rw [Bool.and_eq_true] at hA
  have hB := chkB_all k (by omega) hk2
  unfold chkB at hB
  rw [Bool.and_eq_true, Bool.and_eq_true] at hB
  obtain ⟨sk, hsk, hBk⟩ : ∃ z, gStr (.int k) = some z ∧ okS (F__law_number [.int k, z]) "string" = true := by
    have h := hB.2
    cases h2 : gStr (.int k) with
    | none => rw [h2] at h; cases h
    | some z => rw [h2] at h; exact ⟨z, rfl, h⟩
  have hCl := okS_ok (chkC k (by omega) hk2 l (by omega))
  have hll : gLen (.list (lvStep k l (k ^ l))) = some (.int ((k ^ l : Nat) : Int)) := by unfold lvStep; rw [gv_lenL, List.length_map, List.length_range]
  have hat8 : gIx (.list (lvStep k l (k ^ l))) (.int (a : Int)) = some (.str (tx (sh k l a))) := gv_ixN rfl (by unfold lvStep; rw [List.getElem?_map, List.getElem?_range hat]; rfl)
  have hcut : (Z.cutD R none (some (-1))).length ≤ 1000 := Nat.le_trans (cutD_len _ _ _) (by omega)
  have hsm : small (Z.cutD R none (some (-1))) := fun r hr => G.small r (by
    unfold Z.cutD at hr
    exact List.mem_of_mem_drop (List.mem_of_mem_take hr))
  have t1 : F__law_told [macD k (Z.cutD R none (some (-1)) ++ [List.replicate k (0, 0)]), .list [.str "x"], .int (-1)] = some (.ok (.str "machine")) := told_m (graph_m (small_app hkk.2 hsm) (wrong_bad hk2 _))
  have t2 : F__law_told [macD k R, .list (ws.map (fun w => PyData.str (wx w)) ++ [.str "hz"]), .int (-1)] = some (.ok (.str "word")) := told_w (graph_w G hn8 hw)
  have t3 : F__law_told [macD k R, .list [], .int 1] = some (.ok (.str "number")) := told_n (graph_n G hn8 (n := 1) (ws := []) (fun _ h => nomatch h) (.inl rfl))
  have t4' : F__law_told [macD k R, wsD (List.replicate 7 ([] : List Nat)), .int 1] = some (.ok (.str "number")) := told_n (graph_n G hn8 (n := 1) (ws := List.replicate 7 ([] : List Nat)) (fun w hm => by
    rw [List.eq_of_mem_replicate hm]
    exact ⟨fun _ h => (nomatch h), Nat.zero_le _⟩) (.inr (.inl (by rw [List.length_replicate]; decide))))
  have t4 : F__law_told [macD k R, .list (List.replicate 7 [PyData.str ""]).flatten, .int 1] = some (.ok (.str "number")) := t4'
  have t5 : F__law_told [macD k R, wsD ws, .int (-1)] = some (.ok (.str "number")) := told_n (graph_n G hn8 hw (.inr (.inr (by decide))))
  have t6 : F__law_told [macD k R, wsD ws, .int 11] = some (.ok (.str "large")) := told_l (graph_l G hn8 hw (by omega))
  refine rv_def (G := [some (.list (xs.map .int)), none, none, none, none, none, none, none, none, none, none]) rfl rfl ?_
  unfold p_law
  refine rv_seq_asg (d := .int k) (rv_isX (rv_b2 rv_fC (rv_b2 (rv_callX (rv_cons (rv_fV rfl) (rv_cons rv_fC rv_nil)) (c0 0)) rv_fC (gv_mod (by decide))) gv_add) (by rw [hk])) rfl ?_
  refine rv_seq_asg (d := .int n) (rv_isX (rv_b2 rv_fC (rv_b2 (rv_b2 (rv_callX (rv_cons (rv_fV rfl) (rv_cons rv_fC rv_nil)) (c0 0)) rv_fC (gv_div (by decide))) rv_fC (gv_mod (by decide))) gv_add) (by rw [hn])) rfl ?_
  refine rv_seq_asg (rv_callX (rv_cons (rv_callX (rv_cons (rv_fV rfl) (rv_cons rv_fC rv_nil)) (c0 1)) (rv_cons (rv_callX (rv_cons (rv_fV rfl) (rv_cons rv_fC rv_nil)) (c0 2)) (rv_cons (rv_fV rfl) (rv_cons (rv_fV rfl) rv_nil)))) eM) rfl ?_
  refine rv_seq_asg (d := wsD ws) (rv_lc (ds := (List.range c).map fun (j : Nat) => PyData.int (j : Int)) (by rw [← rgD_map]; exact rv_iR1 (rv_isX (rv_b2 rv_fC (rv_b2 (rv_callX (rv_cons (rv_fV rfl) (rv_cons rv_fC rv_nil)) (c0 3)) rv_fC (gv_mod (by decide))) gv_add) (by rw [hc])) (by unfold rgB; omega)) (by rw [List.length_map, List.length_range]; unfold big; omega) (by
    rw [hws, List.map_map]
    exact lcL_map (f := fun (j : Nat) => PyData.int (j : Int)) (g := fun j => PyData.str (wx (Wf j))) fun j _ => rv_lcI rfl (rv_callX (rv_cons (rv_callX (rv_cons (rv_fV rfl) (rv_cons (rv_b2 rv_fC (rv_fV rfl) gv_add) rv_nil)) (c4 j)) (rv_cons (rv_fV rfl) (rv_cons rv_fC rv_nil))) (hW j).1))) rfl ?_
  refine rv_seq_asg (d := .int l) (rv_isX (rv_b2 (rv_b2 (rv_callX (rv_cons (rv_fV rfl) (rv_cons rv_fC rv_nil)) (c0 3)) rv_fC (gv_div (by decide))) rv_fC (gv_mod (by decide))) (by rw [hl])) rfl ?_
  refine rv_seq_asg (rv_callX (rv_cons (rv_fV rfl) (rv_cons (rv_fV rfl) (rv_cons (rv_fV rfl) rv_nil))) eT) rfl ?_
  refine rv_seq_ifF (rv_or (rv_toT (rv_b2 (rv_b1 (rv_fV rfl) rpG) (rv_b1 (rv_callX (rv_cons (rv_fV rfl) (rv_cons (rv_fV rfl) (rv_cons (rv_fV rfl) rv_nil))) eLG) rpG) gv_neS)) fun _ => rv_toT (rv_b2 (rv_callX (rv_cons (rv_fV rfl) rv_nil) hig) rv_fC isnot_tt)) (rv_seq_nxX ?_)
  refine rv_seq_asg (rv_callX (rv_cons (rv_fV rfl) (rv_cons (rv_fV rfl) rv_nil)) (level_eq ⟨by omega, by omega⟩ (by omega))) rfl ?_
  refine rv_seq_asg (d := .int a) (rv_isX (rv_b2 (rv_callX (rv_cons (rv_fV rfl) (rv_cons rv_fC rv_nil)) (c0 8)) (rv_b1 (rv_fV rfl) hll) (gv_mod (by omega))) (by rw [ha])) rfl ?_
  refine rv_seq_ifF (rv_or (rv_is (y := fun _ => none) (rv_toT (rv_b2 (rv_callX (rv_cons (rv_fV rfl) (rv_cons (rv_b2 (rv_fV rfl) (rv_fV rfl) hat8) rv_nil)) (okI_ok hA.2)) (rv_fV rfl) gv_ne)) (by rw [decide_eq_true rfl])) fun _ => rv_toT (rv_b2 (rv_callX (rv_cons (rv_fV rfl) (rv_cons (rv_fV rfl) (rv_cons (rv_fV rfl) rv_nil))) (okS_ok hA.1)) (rv_b2 (rv_fV rfl) (rv_fV rfl) hat8) gv_neS)) (rv_seq_nxX ?_)
  refine rv_seq_ifF (rv_or (rv_toT (rv_b2 (rv_callX (rv_cons (rv_fV rfl) (rv_cons (rv_fV rfl) (rv_cons (rv_b1 (rv_fV rfl) hll) rv_nil))) hCl) rv_fC gv_neS)) fun _ => rv_or (rv_toT (rv_b2 (rv_callX (rv_cons (rv_fV rfl) (rv_cons rv_fC (rv_cons rv_fC rv_nil))) (okS_ok hB.1.1)) rv_fC gv_neS)) fun _ => rv_toT (rv_b2 (rv_callX (rv_cons rv_fC (rv_cons rv_fC (rv_cons rv_fC rv_nil))) (okS_ok chkD.1)) rv_fC gv_neS)) (rv_seq_nxX ?_)
  refine rv_seq_ifF (rv_or (rv_toT (rv_b2 (rv_callX (rv_cons (rv_fV rfl) (rv_cons rv_fC rv_nil)) (okS_ok hB.1.2)) rv_fC gv_neS)) fun _ => rv_or (rv_toT (rv_b2 (rv_callX (rv_cons rv_fC (rv_cons rv_fC rv_nil)) (okS_ok chkD.2)) rv_fC gv_neS)) fun _ => rv_toT (rv_b2 (rv_callX (rv_cons (rv_fV rfl) (rv_cons (rv_b1 (rv_fV rfl) hsk) rv_nil)) (okS_ok hBk)) rv_fC gv_neS)) (rv_seq_nxX ?_)
  refine rv_seq_asg (d := macD k (Z.cutD R none (some (-1)) ++ [List.replicate k (0, 0)])) (rv_c1 (rv_cons (rv_fV rfl) (rv_cons (rv_b2 (rv_s3 (rv_b2 (rv_fV rfl) rv_fC gv_ix1) rv_oNone (rv_oSome (rv_b1 rv_fC gv_neg)) gv_slRows) (rv_c1 (rv_cons (rv_b2 (rv_c1 (rv_cons (rv_c1 (rv_cons rv_fC (rv_cons rv_fC rv_nil)) gv_T2) rv_nil) gv_T1) (rv_fV rfl) (gv_mulZ (by omega))) rv_nil) gv_T1) (gv_addRows hcut)) rv_nil)) gv_T2) rfl ?_
  refine rv_seq_ifF (rv_or (rv_toT (rv_b2 (rv_callX (rv_cons (rv_fV rfl) (rv_cons (rv_c1 (rv_cons rv_fC rv_nil) gv_L1) (rv_cons (rv_b1 rv_fC gv_neg) rv_nil))) t1) rv_fC gv_neS)) fun _ => rv_toT (rv_b2 (rv_callX (rv_cons (rv_fV rfl) (rv_cons (rv_b2 (rv_fV rfl) (rv_c1 (rv_cons (rv_b2 rv_fC rv_fC (gv_addS (by decide))) rv_nil) gv_L1) (gv_addL (by rw [List.length_map]; show ws.length + 1 ≤ big; unfold big; omega))) (rv_cons (rv_b1 rv_fC gv_neg) rv_nil))) t2) rv_fC gv_neS)) (rv_seq_nxX ?_)
  refine rv_seq_ifF (rv_or (rv_toT (rv_b2 (rv_callX (rv_cons (rv_fV rfl) (rv_cons (rv_c1 rv_nil gv_L0) (rv_cons rv_fC rv_nil))) t3) rv_fC gv_neS)) fun _ => rv_toT (rv_b2 (rv_callX (rv_cons (rv_fV rfl) (rv_cons (rv_b2 (rv_c1 (rv_cons rv_fC rv_nil) gv_L1) rv_fC (gv_repF (n := 7) (by decide) (by decide))) (rv_cons rv_fC rv_nil))) t4) rv_fC gv_neS)) (rv_seq_nxX ?_)
  exact rv_ret (rv_andX (rv_b2 (rv_callX (rv_cons (rv_fV rfl) (rv_cons (rv_fV rfl) (rv_cons (rv_b1 rv_fC gv_neg) rv_nil))) t5) rv_fC gv_eqS) fun _ => rv_b2 (rv_callX (rv_cons (rv_fV rfl) (rv_cons (rv_fV rfl) (rv_cons rv_fC rv_nil))) t6) rv_fC gv_eqS)
end M

open PySem PySem.W PyProof.Rows
set_option Elab.async false
set_option maxRecDepth 100000 in
set_option maxHeartbeats 0 in
theorem PySem.Challenge.cw_leafturner_k69_graphs_of_levels_holds : PySem.Challenge.rw_leafturner_k69_graphs_of_levels.Holds := by
  w_on; o_law; k_head; (case hw => w_witness2)
  k_fill
  refine Z.walk_zG (n := 63) (k := 12) rfl (by decide) rfl ⟨rfl, by decide, by decide⟩ rfl (fun w h Y => PySem.W.kIn_of Y) ?F
  intro w mean mg mb fa h Y KX G T hmg
  refine' D.mk KX G T hmg ?b_all ?b_divmod ?b_enumerate ?b_int ?b_len ?b_list ?b_range ?b_repr ?b_sorted ?b_str ?b_tuple ?b_zip ?g_DIGITS ?g_GREATEST_LEVEL ?g_LARGE_LETTERS ?g_LEAST_DIGITS ?g_LETTERS_IN_ORDER ?g_LONGEST_STRING ?g_LONGEST_WORD ?g_MOST_DIGITS ?g_MOST_NUMBERS ?g_MOST_ROWS ?g_MOST_STATES ?g_MOST_WIDE_STATES ?g_SMALL_LETTERS ?e0_BadNumber ?e1_BadNumber ?e2_BadNumber ?e3_BadNumber ?e4_BadNumber ?e0_LeafError ?e1_LeafError ?e2_LeafError ?e3_LeafError ?e4_LeafError ?e0_NotMachine ?e1_NotMachine ?e2_NotMachine ?e3_NotMachine ?e4_NotMachine ?e0_NotString ?e1_NotString ?e2_NotString ?e3_NotString ?e4_NotString ?e0_NotWord ?e1_NotWord ?e2_NotWord ?e3_NotWord ?e4_NotWord ?e0_TooLarge ?e1_TooLarge ?e2_TooLarge ?e3_TooLarge ?e4_TooLarge ?m_BadNumber_BadNumber ?m_BadNumber_LeafError ?m_BadNumber_NotMachine ?m_BadNumber_NotString ?m_BadNumber_NotWord ?m_BadNumber_TooLarge ?m_NotMachine_BadNumber ?m_NotMachine_LeafError ?m_NotMachine_NotMachine ?m_NotMachine_NotString ?m_NotMachine_NotWord ?m_NotMachine_TooLarge ?m_NotString_BadNumber ?m_NotString_LeafError ?m_NotString_NotMachine ?m_NotString_NotString ?m_NotString_NotWord ?m_NotString_TooLarge ?m_NotWord_BadNumber ?m_NotWord_LeafError ?m_NotWord_NotMachine ?m_NotWord_NotString ?m_NotWord_NotWord ?m_NotWord_TooLarge ?m_TooLarge_BadNumber ?m_TooLarge_LeafError ?m_TooLarge_NotMachine ?m_TooLarge_NotString ?m_TooLarge_NotWord ?m_TooLarge_TooLarge ?a17 ?l17 ?c17 ?k17 ?a36 ?l36 ?c36 ?k36 ?a49 ?l49 ?c49 ?k49 ?a63 ?l63 ?c63 ?k63 ?a51 ?l51 ?c51 ?k51 ?a59 ?l59 ?c59 ?k59 ?a58 ?l58 ?c58 ?k58 ?a60 ?l60 ?c60 ?k60 ?a53 ?l53 ?c53 ?k53 ?a52 ?l52 ?c52 ?k52 ?a54 ?l54 ?c54 ?k54 ?a20 ?l20 ?c20 ?k20 ?q20 ?v20 ?n20 ?r20 ?a21 ?l21 ?c21 ?k21 ?a48 ?l48 ?c48 ?k48 ?a62 ?l62 ?c62 ?k62 ?a15 ?l15 ?c15 ?k15 ?q15 ?v15 ?n15 ?r15 ?a14 ?l14 ?c14 ?k14 ?q14 ?v14 ?n14 ?r14 ?a16 ?l16 ?c16 ?k16 ?a19 ?l19 ?c19 ?k19 ?a30 ?l30 ?c30 ?k30 ?a31 ?l31 ?c31 ?k31 ?q31 ?v31 ?n31 ?r31 ?a32 ?l32 ?c32 ?k32 ?a18 ?l18 ?c18 ?k18 ?a22 ?l22 ?c22 ?k22 ?a24 ?l24 ?c24 ?k24 ?a23 ?l23 ?c23 ?k23 ?a34 ?l34 ?c34 ?k34 ?a37 ?l37 ?c37 ?k37 ?a39 ?l39 ?c39 ?k39 ?a38 ?l38 ?c38 ?k38 ?a41 ?l41 ?c41 ?k41 ?a47 ?l47 ?c47 ?k47 ?a61 ?l61 ?c61 ?k61 ?a57 ?l57 ?c57 ?k57 ?a46 ?l46 ?c46 ?k46 ?q46 ?v46 ?n46 ?r46 ?a64 ?l64 ?c64 ?k64 (fun ns hl hb => M.law_eq ns)
  (case b_all => k_is)
  (case b_divmod => k_is)
  (case b_enumerate => k_is)
  (case b_int => k_is)
  (case b_len => k_is)
  (case b_list => k_is)
  (case b_range => k_is)
  (case b_repr => k_is)
  (case b_sorted => k_is)
  (case b_str => k_is)
  (case b_tuple => k_is)
  (case b_zip => k_is)
  (case g_DIGITS => k_is)
  (case g_GREATEST_LEVEL => k_is)
  (case g_LARGE_LETTERS => k_is)
  (case g_LEAST_DIGITS => k_is)
  (case g_LETTERS_IN_ORDER => k_is)
  (case g_LONGEST_STRING => k_is)
  (case g_LONGEST_WORD => k_is)
  (case g_MOST_DIGITS => k_is)
  (case g_MOST_NUMBERS => k_is)
  (case g_MOST_ROWS => k_is)
  (case g_MOST_STATES => k_is)
  (case g_MOST_WIDE_STATES => k_is)
  (case g_SMALL_LETTERS => k_is)
  (case e0_BadNumber => k_is)
  (case e1_BadNumber => first | k_exc | kernel_rfl | decide +kernel)
  (case e2_BadNumber => k_is)
  (case e3_BadNumber => k_is)
  (case e4_BadNumber => k_is)
  (case e0_LeafError => k_is)
  (case e1_LeafError => first | k_exc | kernel_rfl | decide +kernel)
  (case e2_LeafError => k_is)
  (case e3_LeafError => k_is)
  (case e4_LeafError => k_is)
  (case e0_NotMachine => k_is)
  (case e1_NotMachine => first | k_exc | kernel_rfl | decide +kernel)
  (case e2_NotMachine => k_is)
  (case e3_NotMachine => k_is)
  (case e4_NotMachine => k_is)
  (case e0_NotString => k_is)
  (case e1_NotString => first | k_exc | kernel_rfl | decide +kernel)
  (case e2_NotString => k_is)
  (case e3_NotString => k_is)
  (case e4_NotString => k_is)
  (case e0_NotWord => k_is)
  (case e1_NotWord => first | k_exc | kernel_rfl | decide +kernel)
  (case e2_NotWord => k_is)
  (case e3_NotWord => k_is)
  (case e4_NotWord => k_is)
  (case e0_TooLarge => k_is)
  (case e1_TooLarge => first | k_exc | kernel_rfl | decide +kernel)
  (case e2_TooLarge => k_is)
  (case e3_TooLarge => k_is)
  (case e4_TooLarge => k_is)
  (case m_BadNumber_BadNumber => first | rfl | kernel_rfl | decide +kernel)
  (case m_BadNumber_LeafError => first | rfl | kernel_rfl | decide +kernel)
  (case m_BadNumber_NotMachine => first | rfl | kernel_rfl | decide +kernel)
  (case m_BadNumber_NotString => first | rfl | kernel_rfl | decide +kernel)
  (case m_BadNumber_NotWord => first | rfl | kernel_rfl | decide +kernel)
  (case m_BadNumber_TooLarge => first | rfl | kernel_rfl | decide +kernel)
  (case m_NotMachine_BadNumber => first | rfl | kernel_rfl | decide +kernel)
  (case m_NotMachine_LeafError => first | rfl | kernel_rfl | decide +kernel)
  (case m_NotMachine_NotMachine => first | rfl | kernel_rfl | decide +kernel)
  (case m_NotMachine_NotString => first | rfl | kernel_rfl | decide +kernel)
  (case m_NotMachine_NotWord => first | rfl | kernel_rfl | decide +kernel)
  (case m_NotMachine_TooLarge => first | rfl | kernel_rfl | decide +kernel)
  (case m_NotString_BadNumber => first | rfl | kernel_rfl | decide +kernel)
  (case m_NotString_LeafError => first | rfl | kernel_rfl | decide +kernel)
  (case m_NotString_NotMachine => first | rfl | kernel_rfl | decide +kernel)
  (case m_NotString_NotString => first | rfl | kernel_rfl | decide +kernel)
  (case m_NotString_NotWord => first | rfl | kernel_rfl | decide +kernel)
  (case m_NotString_TooLarge => first | rfl | kernel_rfl | decide +kernel)
  (case m_NotWord_BadNumber => first | rfl | kernel_rfl | decide +kernel)
  (case m_NotWord_LeafError => first | rfl | kernel_rfl | decide +kernel)
  (case m_NotWord_NotMachine => first | rfl | kernel_rfl | decide +kernel)
  (case m_NotWord_NotString => first | rfl | kernel_rfl | decide +kernel)
  (case m_NotWord_NotWord => first | rfl | kernel_rfl | decide +kernel)
  (case m_NotWord_TooLarge => first | rfl | kernel_rfl | decide +kernel)
  (case m_TooLarge_BadNumber => first | rfl | kernel_rfl | decide +kernel)
  (case m_TooLarge_LeafError => first | rfl | kernel_rfl | decide +kernel)
  (case m_TooLarge_NotMachine => first | rfl | kernel_rfl | decide +kernel)
  (case m_TooLarge_NotString => first | rfl | kernel_rfl | decide +kernel)
  (case m_TooLarge_NotWord => first | rfl | kernel_rfl | decide +kernel)
  (case m_TooLarge_TooLarge => first | rfl | kernel_rfl | decide +kernel)
  (case a17 => k_is)
  (case l17 => k_is)
  (case c17 => k_is)
  (case k17 => k_is)
  (case a36 => k_is)
  (case l36 => k_is)
  (case c36 => k_is)
  (case k36 => k_is)
  (case a49 => k_is)
  (case l49 => k_is)
  (case c49 => k_is)
  (case k49 => k_is)
  (case a63 => k_is)
  (case l63 => k_is)
  (case c63 => k_is)
  (case k63 => k_is)
  (case a51 => k_is)
  (case l51 => k_is)
  (case c51 => k_is)
  (case k51 => k_is)
  (case a59 => k_is)
  (case l59 => k_is)
  (case c59 => k_is)
  (case k59 => k_is)
  (case a58 => k_is)
  (case l58 => k_is)
  (case c58 => k_is)
  (case k58 => k_is)
  (case a60 => k_is)
  (case l60 => k_is)
  (case c60 => k_is)
  (case k60 => k_is)
  (case a53 => k_is)
  (case l53 => k_is)
  (case c53 => k_is)
  (case k53 => k_is)
  (case a52 => k_is)
  (case l52 => k_is)
  (case c52 => k_is)
  (case k52 => k_is)
  (case a54 => k_is)
  (case l54 => k_is)
  (case c54 => k_is)
  (case k54 => k_is)
  (case a20 => k_is)
  (case l20 => k_is)
  (case c20 => k_is)
  (case k20 => k_is)
  (case q20 => k_is)
  (case v20 => first | rfl | kernel_rfl | decide +kernel)
  (case n20 => first | rfl | kernel_rfl | decide +kernel)
  (case r20 => first | rfl | decide +kernel | kernel_rfl)
  (case a21 => k_is)
  (case l21 => k_is)
  (case c21 => k_is)
  (case k21 => k_is)
  (case a48 => k_is)
  (case l48 => k_is)
  (case c48 => k_is)
  (case k48 => k_is)
  (case a62 => k_is)
  (case l62 => k_is)
  (case c62 => k_is)
  (case k62 => k_is)
  (case a15 => k_is)
  (case l15 => k_is)
  (case c15 => k_is)
  (case k15 => k_is)
  (case q15 => k_is)
  (case v15 => first | rfl | kernel_rfl | decide +kernel)
  (case n15 => first | rfl | kernel_rfl | decide +kernel)
  (case r15 => first | rfl | decide +kernel | kernel_rfl)
  (case a14 => k_is)
  (case l14 => k_is)
  (case c14 => k_is)
  (case k14 => k_is)
  (case q14 => k_is)
  (case v14 => first | rfl | kernel_rfl | decide +kernel)
  (case n14 => first | rfl | kernel_rfl | decide +kernel)
  (case r14 => first | rfl | decide +kernel | kernel_rfl)
  (case a16 => k_is)
  (case l16 => k_is)
  (case c16 => k_is)
  (case k16 => k_is)
  (case a19 => k_is)
  (case l19 => k_is)
  (case c19 => k_is)
  (case k19 => k_is)
  (case a30 => k_is)
  (case l30 => k_is)
  (case c30 => k_is)
  (case k30 => k_is)
  (case a31 => k_is)
  (case l31 => k_is)
  (case c31 => k_is)
  (case k31 => k_is)
  (case q31 => k_is)
  (case v31 => first | rfl | kernel_rfl | decide +kernel)
  (case n31 => first | rfl | kernel_rfl | decide +kernel)
  (case r31 => first | rfl | decide +kernel | kernel_rfl)
  (case a32 => k_is)
  (case l32 => k_is)
  (case c32 => k_is)
  (case k32 => k_is)
  (case a18 => k_is)
  (case l18 => k_is)
  (case c18 => k_is)
  (case k18 => k_is)
  (case a22 => k_is)
  (case l22 => k_is)
  (case c22 => k_is)
  (case k22 => k_is)
  (case a24 => k_is)
  (case l24 => k_is)
  (case c24 => k_is)
  (case k24 => k_is)
  (case a23 => k_is)
  (case l23 => k_is)
  (case c23 => k_is)
  (case k23 => k_is)
  (case a34 => k_is)
  (case l34 => k_is)
  (case c34 => k_is)
  (case k34 => k_is)
  (case a37 => k_is)
  (case l37 => k_is)
  (case c37 => k_is)
  (case k37 => k_is)
  (case a39 => k_is)
  (case l39 => k_is)
  (case c39 => k_is)
  (case k39 => k_is)
  (case a38 => k_is)
  (case l38 => k_is)
  (case c38 => k_is)
  (case k38 => k_is)
  (case a41 => k_is)
  (case l41 => k_is)
  (case c41 => k_is)
  (case k41 => k_is)
  (case a47 => k_is)
  (case l47 => k_is)
  (case c47 => k_is)
  (case k47 => k_is)
  (case a61 => k_is)
  (case l61 => k_is)
  (case c61 => k_is)
  (case k61 => k_is)
  (case a57 => k_is)
  (case l57 => k_is)
  (case c57 => k_is)
  (case k57 => k_is)
  (case a46 => k_is)
  (case l46 => k_is)
  (case c46 => k_is)
  (case k46 => k_is)
  (case q46 => k_is)
  (case v46 => first | rfl | kernel_rfl | decide +kernel)
  (case n46 => first | rfl | kernel_rfl | decide +kernel)
  (case r46 => first | rfl | decide +kernel | kernel_rfl)
  (case a64 => k_is)
  (case l64 => k_is)
  (case c64 => k_is)
  (case k64 => k_is)
